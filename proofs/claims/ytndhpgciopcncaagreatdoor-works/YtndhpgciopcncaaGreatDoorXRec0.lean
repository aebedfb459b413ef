import Derived.Test.YtndhpgciopcncaaGreatDoorXLay2
import Derived.Lib.ItoaLen
import Derived.Shelf.Strconv.AppendIntPublic10
open Option renaming some → J
set_option linter.unusedVariables false
set_option maxRecDepth 8000
set_option maxHeartbeats 8000000
open Go.Proofs.Tryz
namespace Go.Proofs.YtndhpgciopcncaaGreatDoor
open Go.RowKit Go.Maps Go.Shelf
variable {x:SX}
def jZ(l:List Int):List UInt8:=l.flatMap (fun n=>32::Lib.itoa n)
def JU(st:Int):Bool:=st==1||st==3
def zmY(x:SX):List Int:=[x.1.t,x.1.se,x.1.we,x.2.st]
def znq(x:SX):List Int:=[x.2.cl.cnt,x.2.cl.sum,x.2.cl.mn,x.2.cl.mx]
def zop(x:SX):List UInt8:=jZ (zmY x)++(if JU x.2.st then jZ (znq x)else[])
def zcH(now:Int)(xs:List SX):List UInt8:=Lib.itoa now++xs.flatMap zop
theorem znv(u:Nat):0<(Lib.decDigits u).length:=by
 unfold Lib.decDigits;split<;>simp
theorem zlu(n:Int):0<(Lib.itoa n).length:=by
 unfold Lib.itoa;split
 ·simp
 ·exact znv _
theorem zgi(l:List Int)(n:Int):jZ (l++[n])=jZ l++32::Lib.itoa n:=by simp[jZ]
theorem Zy:∀(l:List Int),(∀n∈l,xX n)->(jZ l).length<=22*l.length
 |[],_=>by simp[jZ]
 |n::l,h=>by
  have b:=Zy l (fun m a=>h m (by simp[a]));have c:=Lib.itoa_length_le n (h n (by simp)).1 (h n (by simp)).2;simp only[jZ,List.flatMap_cons,List.length_append,List.length_cons]at*;omega
structure okX(x:SX):Prop where
 key:x.1.wf
 st:xX x.2.st
 cnt:xX x.2.cl.cnt
 sum:xX x.2.cl.sum
 mn: -2147483648<=x.2.cl.mn/\x.2.cl.mn<=2147483647
 mx: -2147483648<=x.2.cl.mx/\x.2.cl.mx<=2147483647
theorem okX.seg(h:okX x):∀n∈zmY x,xX n:=fun n hn=>by
 simp only[zmY,List.mem_cons,List.not_mem_nil,or_false]at hn;rcases hn with rfl|rfl|rfl|rfl
 ·exact h.key.1
 ·exact h.key.2.1
 ·exact h.key.2.2
 ·exact h.st
theorem okX.cel(h:okX x):∀n∈znq x,xX n:=fun n hn=>by
 have a:=h.mn;have b:=h.mx;simp only[znq,List.mem_cons,List.not_mem_nil,or_false]at hn;rcases hn with rfl|rfl|rfl|rfl
 ·exact h.cnt
 ·exact h.sum
 ·unfold xX;omega
 ·unfold xX;omega
theorem zmk(h:okX x):(zop x).length<=176:=by
 have c:=Zy (zmY x) h.seg;have d:=Zy (znq x) h.cel;have a:(zmY x).length=4:=rfl;have b:(znq x).length=4:=rfl;unfold zop;rw[List.length_append];split
 ·omega
 ·simp;omega
theorem zcc(now:Int)(xs:List SX)(x:SX):zcH now (xs++[x])=zcH now xs++zop x:=by simp[zcH]
theorem zeW:∀(xs:List SX),(∀x∈xs,okX x)->(xs.flatMap zop).length<=176*xs.length
 |[],_=>by simp
 |x::xs,h=>by
  have b:=zeW xs (fun y a=>h y (by simp[a]));have c:=zmk (h x (by simp));simp only[List.flatMap_cons,List.length_append,List.length_cons];omega
theorem Qo{now:Int}{xs:List SX}(hn:xX now)(h:∀x∈xs,okX x):(zcH now xs).length<=21+176*xs.length:=by
 have a:=Lib.itoa_length_le now hn.1 hn.2;have b:=zeW xs h;unfold zcH;rw[List.length_append];omega
end Go.Proofs.YtndhpgciopcncaaGreatDoor
namespace Go.Proofs
open Go.Shelf
def Tryz.layAI_ren:Go.Shelf.Ren:=⟨fun|176=>167|249=>231|288=>263|283=>286|284=>287|285=>288|286=>289|129=>262|317=>303|318=>304|319=>305|320=>306|337=>313|338=>314|n=>n,fun|37=>250|2=>2|3=>3|53=>334|4=>4|9=>9|171=>359|0=>0|173=>361|212=>387|51=>332|5=>5|20=>20|213=>388|46=>299|232=>400|233=>401|n=>n,fun|17=>3|18=>6|19=>7|n=>n⟩
theorem Tryz.layAI:Go.Proofs.LaysM.n176 prog Tryz.layAI_ren:=by
 constructor
 case' ton176=>constructor
 case f129=>exact func262.trans (congrArg J (by kernel_rfl))
 case f176=>exact func167.trans (congrArg J (by kernel_rfl))
 case f249=>exact func231.trans (congrArg J (by kernel_rfl))
 case f283=>exact func286.trans (congrArg J (by kernel_rfl))
 case f284=>exact func287.trans (congrArg J (by kernel_rfl))
 case f285=>exact func288.trans (congrArg J (by kernel_rfl))
 case f286=>exact func289.trans (congrArg J (by kernel_rfl))
 case f288=>exact func263.trans (congrArg J (by kernel_rfl))
 case f317=>exact func303.trans (congrArg J (by kernel_rfl))
 case f318=>exact func304.trans (congrArg J (by kernel_rfl))
 case f319=>exact func305.trans (congrArg J (by kernel_rfl))
 case f320=>exact func306.trans (congrArg J (by kernel_rfl))
 case f337=>exact func313.trans (congrArg J (by kernel_rfl))
 case f338=>exact func314.trans (congrArg J (by kernel_rfl))
 all_goals(intros;kernel_rfl)
end Go.Proofs
namespace Go.Proofs.YtndhpgciopcncaaGreatDoor
open Go.RowKit Go.Maps Go.Shelf
variable {l:List Int} {bs:List UInt8} {B k:Nat} {v:Value} {w:World}
abbrev zpW(B:Nat)(w:World):Prop:=Lib.TabBelow prog B w "internal/strconv.uint64pow10" .u64 Lib.pow10Tab
theorem zba(B n:Nat)(i:Int)(g:xX i)(f:Value)(xs:List Value)(w:World)(b:w.ownsRow B 5 1 f n xs)(d:B<=w.1.size)(a:n+21<=140737488355328)(c:zpW B w):
  Calls prog 167 #[f,I i,I 10] w fun e w'=>∃h,e=.returned h/\w'.ownsRow B 5 1 h (n+(Lib.itoa i).length) (xs++Lib.byteCells (Lib.itoa i))/\Below B w w'/\Lib.OthersKept 5 none w w':=
 Any.strconv_AppendInt_10 Tryz.layAI B n i g.1 g.2 f xs w b d a c
theorem Tryz.infoByte:(prog.info? 5).map (fun i=>(i.zero,i.size,i.bytes))=J (J (.int .u8 0),1,1):=by kernel_rfl
def zaT(w:World)(B:Nat)(v:Value)(bs:List UInt8):Prop:=w.ownsRow B 5 1 v bs.length (Lib.byteCells bs)
theorem zaT.push{cs:List UInt8}(h:w.ownsRow B 5 1 v (bs.length+cs.length) (Lib.byteCells bs++Lib.byteCells cs)):zaT w B v (bs++cs):=by
 unfold zaT;rw[List.length_append,Lib.byteCells_append];exact h
theorem znD(h:k<l.length):∃x,l[k]?=J x:=⟨_,List.getElem?_eq_getElem h⟩
theorem zhd{x:Int}(h:l[k]?=J x):l.take (k+1)=l.take k++[x]:=by
 rw[List.take_add_one,h];rfl
theorem zgj(l:List Int)(a:∀m∈l,xX m)(k:Nat):(jZ (l.take k)).length<=22*l.length:=by
 have c:=Zy (l.take k) (fun m b=>a m (List.mem_of_mem_take b));have d:(l.take k).length<=l.length:=List.length_take_le' _ _;omega
theorem zfr(B g:Nat)(l:List Int)(V:∀m∈l,xX m)(a2:l.length<=100)(X:Value)(bs:List UInt8)(w:World)(d:zaT w B X bs)(L:B<=w.1.size)(W:bs.length<=70368744177664)(f:zpW B w)(S:w.1[g]?=J (.cells (l.map (fun n=>I n)).toArray 2 (0,0))):
  Calls prog 168 #[X,.slice (J (U g 0)) l.length l.length] w fun e w'=>∃Y,e=.returned Y/\zaT w' B Y (bs++jZ l)/\Below B w w'/\Lib.OthersKept 5 none w w':=by
 obtain⟨i0,hi,P,Q,R⟩:=info_parts Tryz.infoByte;have HT:=ze f;have HW:=ze d;have HG:=ze S;have y:=ze V;clear f d S V;go_in;go_wp2_with fail;go_loopw [0,9] (fun v i wr=>∃k:Nat,k<=l.length/\i=I k/\zaT wr B v (bs++jZ (l.take k))/\Below B w wr/\Lib.OthersKept 5 none w wr) (fun _ i _=>l.length-(intOf i).toNat);case atStart=>exact⟨0,Nat.zero_le _,rfl,by simpa[jZ]using ud HW,Below.refl _ _,Lib.OthersKept.refl _ _ _⟩
 case round=>
  obtain⟨k,T,rfl,hv,z,b⟩:=hrel;have A:=zgj l y k;have p:=b g _ (ud HG) (by simp) (fun c fz e=>by cases e);have hbs:=z.size;by_cases N:k<l.length
  ·obtain⟨m,H⟩:=znD N;have C:=ud y m (List.mem_of_getElem? H);have x0:wr.cell? (U g k)=J (I m):=(by rw[xd p];simp[H]);have a1:(k:Int)<l.length:=(by omega);have HM:=ze H;have K:=ze z;have h:=ze b;have x:=ze hv;have O:(bs++jZ (l.take k)).length<=70368744177664+22*100:=(by rw[List.length_append];omega);obtain⟨zs,u⟩:∃zs,bs++jZ (l.take k)=zs:=⟨_,rfl⟩;have HZ:=ze u;rw[u]at x O;clear H z b hv p u;go_wp2_with(at_builtin;refine wpList_append_own _ rfl _ _ 250 rfl B 5 i0 (.int .u8 0) 1 1 underlying250 hi P Q R rfl (by decide) _ _ _ rfl ((ud x).alloc _) (U wr.1.size 0) 1 1 [Value.int .u8 32] rfl rfl (by intro j u' G;match j,G with|0,G=>simp at G;subst G;simp[Addr.add]) (by intro u' F;simp at F;subst F;rfl) (by unfold maxLen;omega) (by omega) (by simp;omega) ?_)
   intro Z w2 r a _;have o:Below B w w2:=((ud K).alloc (Nat.le_trans L hbs) _).grown a (by simp;omega) (fun k T=>(World.ownsRow.lt x k T).1);have D:Lib.OthersKept 5 none w w2:=(h.alloc _).grown a (fun q hq=>by
    obtain⟨a0,hc⟩:=zG (x.alloc _) hq;exact⟨_,_,hc⟩)
   have s:zaT w2 B Z (zs++[32]):=by
    unfold zaT;rw[List.length_append,Lib.byteCells_append];exact r
   go_wp2_with(go_at_call 167;refine(zba B _ m C Z _ w2 s (by have:=o.size;omega) (by rw[List.length_append];simp;omega) (HT.on o)).mono ?_;rintro e w3 ⟨v3,rfl,t,M,E⟩);go_roundw;case rel=>
    refine⟨k+1,by omega,by go_num,?_,o.trans M,D.trans E⟩;have e:bs++jZ (l.take (k+1))=(zs++[32])++Lib.itoa m:=by
     rw[zhd (ud HM),zgi,<-ud HZ];simp
    rw[e];exact zaT.push t
   case measure=>simp[intOf];omega
  ·obtain rfl:k=l.length:=(by omega);rw[List.take_length]at hv;have x:=ze hv;have K:=ze z;have h:=ze b;clear hv z b p A;go_wp2_with fail;go_ret;exact⟨_,rfl,x,K,h⟩
theorem Ku(st:Int)(w:World):Calls prog 169 #[I st] w fun e w'=>e=.returned (.bool (JU st))/\w'=w:=by
 unfold JU;cases a:(st==1)
 ·cases b:(st==3)
  ·go_in;go_wp2_with fail;go_ret;exact⟨rfl,rfl⟩
  ·go_in;go_wp2_with fail;go_ret;exact⟨rfl,rfl⟩
 ·go_in;go_wp2_with fail;go_ret;exact⟨rfl,rfl⟩
theorem zhA(B g:Nat)(a b c d:Int)(o:∀m∈[a,b,c,d],xX m)(k:Value)(bs:List UInt8)(w:World)(h:zaT w B k bs)(j:B<=w.1.size)(f:bs.length<=70368744177664)(i:zpW B w)(n:w.1[g]?=J (.cells #[I a,I b,I c,I d] 2 (0,0))):
  Calls prog 168 #[k,.slice (J (U g 0)) 4 4] w fun e w'=>∃l,e=.returned l/\zaT w' B l (bs++jZ [a,b,c,d])/\Below B w w'/\Lib.OthersKept 5 none w w':=
 zfr B g [a,b,c,d] o (by simp) k bs w h j f i n
theorem zcq{w':World}(h:Lib.TabIs prog w "internal/strconv.uint64pow10" .u64 Lib.pow10Tab)(a:B_ w w'):Lib.TabIs prog w' "internal/strconv.uint64pow10" .u64 Lib.pow10Tab:=Lib.tabBelow_of_tabIs h _ a
theorem zaT.alloc(h:zaT w B v bs)(o:Obj):zaT (w.alloc o) B v bs:=World.ownsRow.alloc h o
theorem zcB(now:Int)(C:xX now)(xs:List SX)(F:∀x∈xs,okX x)(ao:xs.length<=100000000)(v:Value)(w:World)(hv:SRd w v xs)(E:Lib.TabIs prog w "internal/strconv.uint64pow10" .u64 Lib.pow10Tab):
  Calls prog 108 #[.agg #[I now,v]] w (Rz w (.string ⟨(zcH now xs).toArray⟩)):=by
 obtain⟨ad,cap,rfl⟩:=hv.slice;have a:B_ w (w.alloc (.cells #[I now,.slice ad xs.length cap] 190)):=(Below.refl _ _).alloc (Nat.le_refl _) _;have u:=zo w (.cells #[I now,.slice ad xs.length cap] 190);have aa:=zE w (.cells #[I now,.slice ad xs.length cap] 190);have D:=fun k=>Qo C (xs:=xs.take k) (fun x h=>F x (List.mem_of_mem_take h));have b:=hv.later a;have y:=Lib.tabBelow_of_tabIs (zcq E a);obtain⟨X,hX⟩:∃X,(w.alloc (.cells #[I now,.slice ad xs.length cap] 190))=X:=⟨_,rfl⟩;rw[hX]at a u aa b y;obtain⟨k0,-⟩:=zc u;have K:=ze (zba X.1.size 0 now C (.slice none 0 0) [] X (World.ownsRow_nil _ _ _ _) (Nat.le_refl _) (by omega) y);have ai:=ze hX;have V:=ze a;have ae:=ze u;have ah:=ze b;have a2:=ze y;have ag:=ze F;have a1:=ze D;have an:w.1.size<X.1.size:=by omega
 clear hX a u b y F D hv E aa;go_in;go_wp2_with fail;rw[ud ai];go_wp2_with(go_at_call 167;refine K.mono ?_;rintro e W ⟨v0,rfl,q,O,-⟩;have c1:Cz W w.1.size 1 (.slice ad xs.length cap):=(O.cell (p:=(U w.1.size 1)) an).trans (by rw[xd (ud ae)];rfl));have HO:=ze q;have ab:=ze O;clear q O c1 k0;go_loopw [3,12] (fun v i wr=>∃k:Nat,k<=xs.length/\i=I k/\zaT wr X.1.size v (zcH now (xs.take k))/\B_ X wr) (fun _ i _=>xs.length-(intOf i).toNat);case atStart=>exact⟨0,Nat.zero_le _,rfl,by
  have h:=ud HO;rw[Nat.zero_add,List.nil_append]at h;have e:zcH now (xs.take 0)=Lib.itoa now:=by simp[zcH]
  rw[e];exact h,ab⟩
 case round=>
  obtain⟨k,hk,rfl,hv,T⟩:=hrel;have hbs:=T.size;have hr:=ud a1 k;rw[List.length_take]at hr;by_cases am:k<xs.length
  ·obtain⟨x,F⟩:=zmP am;have o:=ud ag x (List.mem_of_getElem? F);have a9:=ah.later T;obtain⟨g,rfl,-,au,a5⟩:=a9.form (by omega);obtain⟨x0,x1,x2,x3,x4,x5,x6,x7⟩:=a5 k x F;clear a5;have av:(k:Int)<xs.length:=(by omega);obtain⟨aw,ax⟩:=o.mn;obtain⟨ay,az⟩:=o.mx;have m:=o.seg;have B:=o.cel;unfold zmY at m;unfold znq at B;obtain⟨Y,S⟩:∃Y,(wr.alloc (.cells (xZz x) 148))=Y:=⟨_,rfl⟩;have Q:B_ X Y:=(by rw[<-S];exact T.alloc hbs _);have N:Y.1[wr.1.size]?=J (.cells (xZz x) 148 (0,0)):=(by rw[<-S];exact zo _ _);have al:Y.1.size=wr.1.size+1:=(by rw[<-S];exact zE _ _);have z:=zaT.alloc hv (.cells (xZz x) 148);rw[S]at z;obtain⟨zs,R⟩:∃zs,zcH now (xs.take k)=zs:=⟨_,rfl⟩;rw[R]at z hr;have HZ:=ze R;have HX:=ze F;have aB:zs.length<=20000000000:=(by omega);obtain⟨y0,y1,y2,y3,y4,y5,y6,y7,-⟩:=zc N;obtain⟨n0,s,a4⟩:∃n0:Nat,B_ X (Y.alloc (.cells #[I x.1.t,I x.1.se,I x.1.we,I x.2.st] 2))/\(Y.alloc (.cells #[I x.1.t,I x.1.se,I x.1.we,I x.2.st] 2)).1[Y.1.size]?=J (.cells #[I x.1.t,I x.1.se,I x.1.we,I x.2.st] 2 (0,0)):=⟨0,Q.alloc Q.size _,zo _ _⟩;have H:=ze (zhA X.1.size Y.1.size x.1.t x.1.se x.1.we x.2.st m _ zs _ (zaT.alloc z _) (Nat.le_trans s.size (Nat.le_refl _)) (by omega) (a2.on s) a4);have af:=ze (Zy [x.1.t,x.1.se,x.1.we,x.2.st] m);have r:=ze N;have a3:=ze S;have Z:=ze s;have ak:=ze al;clear T hv a9 o S Q N z R F s a4 m;rw[ud ak]at H;cases hc:JU x.2.st
   ·have L:Hid (∀W:World,Calls prog 169 #[I x.2.st] W fun e w'=>e=.returned (.bool false)/\w'=W):=fun W=> (by rw[<-hc];exact Ku _ W);go_wp2_with fail;rw[ud a3];go_wp2_with(first
     |(go_at_call 168;refine H.mono ?_;rintro e W1 ⟨v1,rfl,b,a,d⟩;have h1:=d wr.1.size _ ((Below.heap_alloc _ _ _ (zd (ud r))).trans (ud r)) (by simp) (fun c fz e=>by cases e);obtain⟨-,-,-,z3,-⟩:=zc h1;have M:=ze b;have G:=ze a;clear b a d h1)
     |(go_at_call 169;refine(ud L _).mono ?_;rintro e w2 ⟨rfl,rfl⟩))
    go_roundw;case rel=>
     refine⟨k+1,by omega,by go_num,?_,Z.trans G⟩;have e:zcH now (xs.take (k+1))=zs++jZ [x.1.t,x.1.se,x.1.we,x.2.st]:=by
      rw[Qu (ud HX),zcc,ud HZ];simp[zop,hc,zmY]
     rw[e];exact M
    case measure=>simp[intOf];omega
   ·have L:Hid (∀W:World,Calls prog 169 #[I x.2.st] W fun e w'=>e=.returned (.bool true)/\w'=W):=fun W=> (by rw[<-hc];exact Ku _ W);go_wp2_with fail;rw[ud a3];go_wp2_with(first
     |(go_at_call 168;refine H.mono ?_;rintro e W1 ⟨v1,rfl,b,a,d⟩;have h1:=d wr.1.size _ ((Below.heap_alloc _ _ _ (zd (ud r))).trans (ud r)) (by simp) (fun c fz e=>by cases e);refine Hid.out ?_)
     |fail)
    refine Lib.hid ?_;obtain⟨-,-,-,z3,z4,z5,z6,z7,-⟩:=zc h1;have n:=Z.trans a;have a7:=ud af;obtain⟨ys,A⟩:∃ys,zs++jZ [x.1.t,x.1.se,x.1.we,x.2.st]=ys:=⟨_,rfl⟩;have aC:ys.length<=30000000000:=(by rw[<-A,List.length_append];simp only[List.length_cons,List.length_nil]at a7;omega);rw[A]at b;have aj:=ze A;have f:B_ X (W1.alloc (.cells #[I x.2.cl.cnt,I x.2.cl.sum,I x.2.cl.mn,I x.2.cl.mx] 2)):=n.alloc n.size _;have ac:=ze (zhA X.1.size W1.1.size x.2.cl.cnt x.2.cl.sum x.2.cl.mn x.2.cl.mx B v1 ys _ (zaT.alloc b _) f.size (by omega) (a2.on f) (zo _ _));have a0:=ze f;clear h1 a d b n a7 A f;go_wp2_with(first
     |(go_at_call 169;refine(ud L _).mono ?_;rintro e w2 ⟨rfl,rfl⟩)
     |(go_at_call 168;refine ac.mono ?_;rintro e W2 ⟨v2,rfl,a8,a6,-⟩;have M:=ze a8;have G:=ze a6;clear a8 a6))
    go_roundw;case rel=>
     refine⟨k+1,by omega,by go_num,?_,a0.trans G⟩;have e:zcH now (xs.take (k+1))=ys++jZ [x.2.cl.cnt,x.2.cl.sum,x.2.cl.mn,x.2.cl.mx]:=by
      rw[Qu (ud HX),zcc,ud HZ,<-ud aj];simp[zop,hc,zmY,znq]
     rw[e];exact M
    case measure=>simp[intOf];omega
  ·obtain rfl:k=xs.length:=(by omega);rw[List.take_length]at hv;have aA:decide ((xs.length:Int)<xs.length)=false:=(by simp);obtain⟨l,hl⟩:∃l,zcH now xs=l:=⟨_,rfl⟩;rw[hl]at hv;have ap:0<l.length:=(by rw[<-hl];unfold zcH;rw[List.length_append];have:=zlu now;omega);have HL:=ze hl;have HB:=ze (V.trans (T.mono V.size));clear T hl hr;rcases hv.2 with⟨-,h0⟩|⟨g,cp,aq,rfl,-⟩
   ·omega
   ·have ar:=run_convert_bytes_back (P:=prog) wr 250 9 5 (U g 0) cp l underlying250 underlying5 underlying9 (fun j hj=>World.ownsRow.cells hv (g:=g) rfl j _ (by simp[Lib.byteCells,hj]));clear hv;go_wp2_with fail;go_ret;rw[ud HL];exact⟨rfl,HB⟩
