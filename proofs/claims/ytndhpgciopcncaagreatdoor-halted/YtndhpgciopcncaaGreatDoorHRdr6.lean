import Derived.Test.YtndhpgciopcncaaGreatDoorHStp1
open Option renaming some → J
open Nat renaming le_refl → Y
open Nat renaming le_trans → Z
open Go.RowKit.Below renaming refl → C
open Option renaming none → z
open Go.RowKit renaming Below → z0
open Go.Value (int)
open Go.IntKind (i32)
set_option linter.unusedVariables false
set_option maxRecDepth 100000
set_option maxHeartbeats 8000000
open Go.Proofs.Tryz
namespace Go.Proofs.YtndhpgciopcncaaGreatDoor
open Go.RowKit Go.Maps Go.Shelf
variable {b:Bool} {lo t txt:ByteArray} {c:Cf} {S:DS} {i:Ids} {ep ep' l now:Int} {L:LV} {TL:List (Jk×Tsk)} {G Gl:List (Sg×Unit)} {q q1 q2:List (Sg×Unit)×LV} {dr:List FS} {ws:List Int} {ns ns':List Nm} {xs:List SX} {ts:List Tsk} {m m' m2:MS} {M N e g j k nn p:Nat} {r:RM} {x:SX} {W w w':World}
theorem zch(h:Yg w p g ws k)(c:Cf)(d:c.ok)(a:Option Addr)(cap:Nat)(x:SX)(b:rdX c x)(f:∀j n,(ZV x)[j]?=J n->ws[k+j]?=J n):
  Calls prog 201 #[(O p),(cZz c a cap)] w fun e w'=>e=.returned (.agg (xZz x))/\Yg w' p g ws (k+(ZV x).length)/\zi (fun q=>q=p) w w':=by
 have l:=b.st;have i:x.2.st=1\/x.2.st=2\/x.2.st=3\/x.2.st=4:=by omega
 rcases i with e|e|e|e
 ·exact zgx h c d a cap x b e f
 ·exact zgy h c d a cap x b e f
 ·exact zgz h c d a cap x b e f
 ·exact zgA h c d a cap x b e f
abbrev Qp(w:World):Prop:=Lib.TabIs prog w "strings.asciiSpace" .u8 Lib.asciiSpaceTab
def KN(now:Int)(xs:List SX):List Int:=now::xs.flatMap ZV
theorem zcb(now:Int)(xs:List SX):kw (now,xs)=Lib.itoa now++((xs.flatMap ZV).flatMap (fun n=>32::Lib.itoa n)++[10]):=by
 have h:∀xs:List SX,xs.flatMap zkn=(xs.flatMap ZV).flatMap (fun n=>32::Lib.itoa n):=fun xs=>by
  induction xs with
  |nil=>rfl
  |cons x xs a=>
   rw[List.flatMap_cons,List.flatMap_cons,List.flatMap_append,a];congr 1;unfold zkn ZV vP;split<;>simp
 unfold kw Zd;rw[h,List.append_assoc]
theorem zgp(now:Int)(xs:List SX):Lib.fields (kw (now,xs))=(KN now xs).map Lib.itoa:=by
 rw[zcb];exact zcW now _
theorem zgv(r:Rw):∀b∈kw r,b.toNat<128:=fun b a=>by
 obtain⟨now,xs⟩:=r;rw[zcb]at a;rcases List.mem_append.1 a with a|a
 ·have:=jC now b a;omega
 ·rcases List.mem_append.1 a with a|a
  ·obtain⟨n,_,a⟩:=List.mem_flatMap.1 a;rcases List.mem_cons.1 a with rfl|a
   ·decide
   ·have:=jC n b a;omega
  ·rw[List.mem_singleton]at a;subst a;decide
theorem zfy(r:Rw)(c:(kw r).length<4294967281)(w:World)(d:Qp w):Calls prog 199 #[.string (zgS r)] w fun e w'=>e=.returned (.slice (J (U w.1.size 0)) (KN r.1 r.2).length (KN r.1 r.2).length)/\w'=w.alloc (.cells ((KN r.1 r.2).map zgL).toArray 9):=by
 have h:=Any.strings_Fields Tryz.layFD (by kernel_rfl) (by kernel_rfl) (zgS r) w (by simpa[zgS,ByteArray.size]using c) (fun j b a=>zgv r b (by simpa[zgS]using List.mem_of_getElem? a)) d;have e:Lib.fields (zgS r).data.toList=(KN r.1 r.2).map Lib.itoa:=by simpa[zgS]using zgp r.1 r.2
 rw[e,List.length_map,List.map_map]at h;exact h
theorem Qp.later(h:Qp w)(c:z0 w.1.size w w'):Qp w':=by
 unfold Qp Lib.TabIs World.var? at*;cases b:prog.globalNamed "strings.asciiSpace" with
 |none=>rw[b]at h;simp at h
 |some g=>
  rw[b]at h;simp only[Option.bind_some]at h ⊢;rcases Nat.lt_or_ge g w.1.size with a|a
  ·rw[c.block _ a];exact h
  ·rw[Array.getElem?_eq_none a]at h;simp at h
theorem zom:prog.globalNamed "strings.asciiSpace" =J 0:=by kernel_rfl
theorem zop:(prog.globals[0]?).map (·.type)=J 309:=by kernel_rfl
theorem zcH(h:laidMetH prog zkm W):Qp W:=by
 rw[MakeChecks.laidMetH_plain _ _ _ (by kernel_rfl)]at h;have a:laidMet prog (("strings.asciiSpace",Lib.tabData .u8 Lib.asciiSpaceTab)::zkm.drop 7) W:=h.tail.tail.tail.tail.tail.tail;exact Lib.tabIs_of_head zom zop underlying309 underlying5 (by kernel_rfl) (by kernel_rfl) a
theorem zmj{ops:Array Oper}{o:Oper}{a:Act}{K:Act->World->Prop}{Q:Exit->Act->World->Prop}{E:Prop}(b:o.guard=z)(x y:Operand)(ts:Array TypeId)(i:o.op=.call {callee:=.value (.func 201),args:=#[x,y],argTypes:=ts})(c v2:Value)(l:a.eval x=c)(m:a.eval y=v2)(v:Value){R:World->Prop}(d:Calls prog 201 #[c,v2] w fun e w'=>e=.returned v/\R w')(h:∀w',R w'->K (a.put o.dst v) w'):if Region.wanted o (yielded ops a.tmps)=true then Oper.wp prog o a w K Q else E:=by
 have k:Region.wanted o (yielded ops a.tmps)=true:=by simp[Region.wanted,b]
 rw[if_pos k];have f:(execOp a.eval o).run prog w=.ok (.enter 201 #[c,v2]) w:=by
  have g:a.eval (.func 201)=.func (.func 201) #[] #[]:=rfl;simp[execOp,i,resolve,invoke,l,m,g,Deferred.ofValue]
 unfold Oper.wp;rw[f,Oper.upon_enter];refine d.mono ?_;rintro e w' ⟨rfl,j⟩;exact h w' j
theorem zkt(a:World)(o:Obj):a.1.size<=(a.alloc o).1.size:=by rw[zM];omega
def zbZ(w:World)(p:Nat):Nat:=match w.cell? (U p 0)with
 |some (.slice _ n _)=>n
 |_=>0
theorem Yg.left(h:Yg w p g ws k):zbZ w p=ws.length-k:=by
 obtain⟨ad,a,_⟩:=h.head;unfold zbZ;rw[xR a];rfl
theorem zdy(h:Yg w p g ws k):Yg w.drew p g ws k:=⟨h.head,h.row⟩
theorem zeN(x:SX):0<(ZV x).length:=by unfold ZV zko;simp
theorem zct{α:Type}{l:List α}{x:α}(h:l[j]?=J x):l.take (j+1)=l.take j++[x]:=by
 rw[List.take_add_one,h];rfl
theorem zji(h:xs[j]?=J x):∀i n,(ZV x)[i]?=J n->(KN now xs)[1+((xs.take j).flatMap ZV).length+i]?=J n:=fun i n b=>by
 have c:=(List.getElem?_eq_some_iff.1 h).1;have e:xs=xs.take j++x::xs.drop (j+1):=by
  have a:=(List.take_append_drop j xs).symm;rw[List.drop_eq_getElem_cons c,(List.getElem?_eq_some_iff.1 h).2]at a;exact a
 have d:=(List.getElem?_eq_some_iff.1 b).1;unfold KN;rw[show 1+((xs.take j).flatMap ZV).length+i=(((xs.take j).flatMap ZV).length+i)+1 by omega,List.getElem?_cons_succ]
 conv=>lhs;rw[e]
 rw[List.flatMap_append,List.flatMap_cons];rw[List.take_append_of_le_length (by simp;omega),List.take_take,Nat.min_self];rw[List.getElem?_append_right (by omega),Nat.add_sub_cancel_left,List.getElem?_append_left d];exact b
theorem zlQ(h:xs[j]?=J x):1+((xs.take j).flatMap ZV).length+(ZV x).length<=(KN now xs).length:=by
 have b:=zeN x;have a:=zji (now:=now) h ((ZV x).length-1) _ (List.getElem?_eq_getElem (by omega));have:=(List.getElem?_eq_some_iff.1 a).1;omega
theorem zlP(r:Rw)(hl:(kw r).length<4294967281)(ht:Qp w)(c:Cf)(hc:c.ok)(a:Option Addr)(cap:Nat)(hn:0<=r.1/\r.1<=100000)(hx:∀x∈r.2,rdX c x)(aZ:r.2.length<=1000000000):
  Calls prog 130 #[.string (zgS r),(cZz c a cap)] w fun e w'=>∃v,e=.returned (.tuple #[.agg #[I r.1,v],.bool true])/\ju w' w.1.size v r.2/\z0 w.1.size w w':=by
 have HF:=fun W (hW:z0 w.1.size w W)=>ze (zfy r hl W (ht.later hW));obtain⟨X,a9⟩:∃X,(w.alloc (.cells (aZz c a cap) 89)).alloc (.cells #[I 0,.slice z 0 0] 190)=X:=⟨_,rfl⟩;obtain⟨y0,y1,R,hz⟩:=box2 w (.cells (aZz c a cap) 89) (.cells #[I 0,.slice z 0 0] 190);rw[a9]at y0 y1 R hz;have ag:=HF X R;have ao:=ze a9;have Y0:=ze y0;have Y1:=ze y1;have af:=ze R;clear HF a9 y0 y1 R;go_enter func130,ntmps130;go_wp2_with fail;rw[ud ao];refine(ud ag).mono ?_;rintro e W1 ⟨rfl,P⟩;have aw:z0 X.1.size X W1:=by rw[P];exact(C _ _).alloc (Y _) _
 have u:W1.1[X.1.size]?=J (.cells ((KN r.1 r.2).map zgL).toArray 9 (0,0)):=by rw[P];exact zq _ _
 have az:W1.1.size=X.1.size+1:=by rw[P];exact zM _ _
 have a0:=ze u;have H:=ze aw;clear P u aw ag;obtain⟨W2,Q⟩:∃W2,W1.alloc (.cells #[.slice (J (U (w.1.size+2) 0)) (KN r.1 r.2).length (KN r.1 r.2).length,.bool false] 278)=W2:=⟨_,rfl⟩;have a7:Yg W2 (w.1.size+2+1) (w.1.size+2) (KN r.1 r.2) 0:=by
  have m:=zq W1 (.cells #[.slice (J (U (w.1.size+2) 0)) (KN r.1 r.2).length (KN r.1 r.2).length,.bool false] 278);have D:z0 W1.1.size W1 W2:=by rw[<-Q];exact(C _ _).alloc (Y _) _
  rw[Q,az,hz]at m;refine⟨⟨_,m,fun _=>rfl⟩,?_⟩;rw[<-hz];exact(D.block _ (by omega)).trans (ud a0)
 have ai:=ze (zY a7 (n:=r.1) (by rfl) (by unfold xz;omega) 0 100000 hn.1 hn.2);have B:=ze Q;have aM:=ze a7;clear a7 Q;generalize aN:(KN r.1 r.2).length=NN at*;go_wp2_with fail;rw[ud B];refine(ud ai).mono ?_;rintro e V ⟨rfl,ar,hK1⟩;have a6:=ze ar;have K:=ze hK1;clear ar hK1 ai;go_wp2_with fail;have aa:z0 w.1.size w V:=by
  have m:=ud af;have D:=(ud H).mono m.size;have h3:z0 w.1.size W1 W2:=by rw[<-ud B];exact(C _ _).alloc (by omega) _
  exact((m.trans D).trans h3).trans ((ud K).below (by have:=(m.trans (D.trans h3)).size;omega) (fun q e=>by omega))
 have ac:V.1[w.1.size]?=J (.cells (aZz c a cap) 89 (0,0)):=by
  have m:=((ud H).block _ (by omega)).trans (ud Y0);have D:W2.1[w.1.size]?=J (.cells (aZz c a cap) 89 (0,0)):=by rw[<-ud B];exact(Below.heap_alloc _ _ _ (zd m)).trans m
  exact(ud K).heap D (by omega)
 have ae:V.1[w.1.size+1]?=J (.cells #[I 0,.slice z 0 0] 190 (0,0)):=by
  have m:=((ud H).block _ (by omega)).trans (ud Y1);have D:W2.1[w.1.size+1]?=J (.cells #[I 0,.slice z 0 0] 190 (0,0)):=by rw[<-ud B];exact(Below.heap_alloc _ _ _ (zd m)).trans m
  exact(ud K).heap D (by omega)
 obtain⟨N,hU⟩:∃N,V.alloc (.cells #[I r.1,.slice z 0 0] 190)=N:=⟨_,rfl⟩;have E:z0 V.1.size V N:=by rw[<-hU];exact(C _ _).alloc (Y _) _
 have ay:N.1[V.1.size]?=J (.cells #[I r.1,.slice z 0 0] 190 (0,0)):=by rw[<-hU];exact zq _ _
 have aU:w.1.size+4<=V.1.size:=by
  obtain⟨ad,hh,_⟩:=(ud a6).head;have:=zd hh;omega
 have aA:Hid (Yg N (w.1.size+3) (w.1.size+2) (KN r.1 r.2) 1/\N.1[V.1.size]?=J (.cells #[I r.1,.slice z 0 0] 190 (0,0))/\N.1[w.1.size]?=J (.cells (aZz c a cap) 89 (0,0))/\N.1[w.1.size+1]?=J (.cells #[I 0,.slice z 0 0] 190 (0,0))/\z0 w.1.size w N):=
  ⟨(ud a6).kept (f:=fun _=>False) (zi.of_below E) (fun e=>e) (fun e=>e),ay,(E.block _ (zd ac)).trans ac,(E.block _ (zd ae)).trans ae,aa.trans (E.mono aa.size)⟩
 rw[hU];generalize hO:V.1.size=M at*;have HX:=ze hx;have HC:=ze hc;clear hO hx aa ac ae hU E ay af H ao Y0 Y1 aM a6 K B a0 hz az aN ht hl hn hc;go_loopw [] (fun wr=>∃(j:Nat) (v:Value),j<=r.2.length/\Yg wr (w.1.size+3) (w.1.size+2) (KN r.1 r.2) (1+((r.2.take j).flatMap ZV).length)/\wr.1[M]?=J (.cells #[I r.1,v] 190 (0,0))/\ju wr w.1.size v (r.2.take j)/\wr.1[w.1.size]?=J (.cells (aZz c a cap) 89 (0,0))/\wr.1[w.1.size+1]?=J (.cells #[I 0,.slice z 0 0] 190 (0,0))/\z0 w.1.size w wr) (fun wr=>zbZ wr (w.1.size+3));case atStart=>
  obtain⟨m,D,h3,h4,h5⟩:=ud aA;exact⟨0,.slice z 0 0,Nat.zero_le _,m,D,World.ownsRow_nil _ _ _ _,h3,h4,h5⟩
 case round=>
  obtain⟨j,v,hj,hR,o,hS,y,d,hB⟩:=hrel;obtain⟨va,vc,rfl⟩:=zR hS;rw[List.length_take,Nat.min_eq_left hj]at o hS;have S:=ze hR.left;have ab:(1+((r.2.take j).flatMap ZV).length)<=(KN r.1 r.2).length:=by
   unfold KN;rw[List.length_cons,List.length_flatMap,List.length_flatMap];have h9:((r.2.take j).map (fun a=>(ZV a).length)).sum<=(r.2.map (fun a=>(ZV a).length)).sum:=by
    conv=>rhs;rw[<-List.take_append_drop j r.2]
    rw[List.map_append,List.sum_append];omega
   omega
  obtain⟨ad,F,av⟩:=hR.head;obtain⟨c0,c1,-⟩:=zc F;obtain⟨o0,o1,-⟩:=zc o;have pl:=zd F;have ol:=zd o;have ql:=zd d;have ll:=zd y;by_cases aS:j<r.2.length
  ·obtain⟨x,hx⟩:∃x,r.2[j]?=J x:=⟨_,List.getElem?_eq_getElem aS⟩;have a2:=zlQ (now:=r.1) hx;have a4:=zeN x;have an:=fun W (hW:Yg W (w.1.size+3) (w.1.size+2) (KN r.1 r.2) (1+((r.2.take j).flatMap ZV).length))=>ze (zch hW c (ud HC) a cap x (ud HX x (List.mem_of_getElem? hx)) (zji hx));generalize hK:1+((r.2.take j).flatMap ZV).length=k at*;generalize aq:(KN r.1 r.2).length-k=nk at*;have aV:(0:Int)<(nk:Int):=(by omega);obtain⟨l0,l1,l2,l3,l4,l5,l6,-⟩:=zc y;have g:wr.ownsRow w.1.size 148 8 (.slice va j vc) j ((r.2.take j).flatMap xw):=by
    have h9:=hS;unfold ju at h9;rw[List.length_take,Nat.min_eq_left hj]at h9;exact h9
   have a5:=ze (zp F g (by decide));have aj:=ze (zp hR.row g (by decide));have aG:=ze (zp y g (by decide));have aI:=ze (zp d g (by decide));have aH:=ze (zp o g (by decide));have aF:Hid (∀q,(Value.slice va j vc).ownBlock=J q->w.1.size<=q):=fun q hq=>(g.lt q hq).1;have aO:¬M=w.1.size+3:=(by omega);have HR:=ze hR;have aK:=ze o;have HS:=ze g;have aE:=ze y;have L:=ze d;have HB:=ze hB;have al:=ze a2;have aL:=ze a4;have ap:=ze hx;have aD:=ze aq;have aC:=ze hK;clear hR o hS g y d hB F av a2 ab hK a4 hx aq;go_wp2_with fail;go_region_law (first
    |(refine zmj rfl (.tmp 6) (.tmp 19) _ rfl _ _ (by rfl) (by rfl) _ (ud (an _ ?aY)) ?_;(case aY=>(first|exact ud HR|exact zdy (ud HR)|exact zdy (zdy (ud HR))));intro V2 aP;obtain⟨au,A⟩:=aP;have h:zi (fun q=>q=w.1.size+3) wr V2:=⟨A.os,A.tape,A.output,A.size,A.block⟩;have O:=h.heap (ud aK) aO;obtain⟨-,d1,-⟩:=zc O;have dl:=zd O;have aJ:=ze O;have am:=ze au;have a1:=ze (zh (ud HS) h (fun q hq e=>ud a5 q hq e));have aB:=ze h;clear au A h O)
    |(refine vI rfl (.tmp 18) (.tmp 21) 105 148 8 56 rfl underlying105 Tryz.infoSeg rfl (by decide) w.1.size (.slice va j vc) j ((r.2.take j).flatMap xw) (by simp[Act.eval]) (by first|exact jJ ((ud a1).alloc _)|exact(ud a1).alloc _) V2.1.size [I x.1.t,I x.1.sr,I x.1.wn,I x.2.st,I x.2.cl.cnt,I x.2.cl.sum,int i32 x.2.cl.mn,int i32 x.2.cl.mx] 148 (0,0) (by simp[Act.eval]) (by first|exact jI V2 _|exact zq V2 _) rfl (by simp[Value.oneCell']) ?h63 ?hby ?hbs ?_;(case h63=>(simp only[maxLen];omega));(case hby=>omega);(case hbs=>exact Z (Nat.le_of_lt (Nat.lt_of_le_of_lt (show w.1.size<=M by omega) dl)) (zkt _ _));intro g3 s w5 a3 b aQ aT;have l:zi (fun q=>(Value.slice va j vc).ownBlock=J q) V2 w5:=zi.grown ((zi.refl _ _).alloc _) (by first|exact vG b|exact b) (fun q hq _=>hq);have G:=l.heap (ud aJ) (fun e=>ud aH _ e rfl);obtain⟨-,e1,-⟩:=zc G;have ef:=fun i=>zw G i;have el:=zd G;have T:=ze a3;have ah:=ze l;have ak:=ze G;clear a3 l G b aQ))
   all_goals
    go_wp2_with fail
    go_roundw
    case rel=>
     have h:=ud aB;have l:=ud ah;have p:zi (fun q=>q=M) w5 (w5.setCell (U M 1) (.slice (J (U g3 0)) (j+1) s)):=zg (zi.refl _ _) rfl;have u:=zh (ud T) p (zp (ud ak) (ud T) (by decide));have a8:=((ud am).kept l (fun e=>ud a5 _ e rfl) (fun e=>ud aj _ e rfl)).kept p (by omega) (by omega);have aX:=ud al;refine⟨j+1,.slice (J (U g3 0)) (j+1) s,by omega,?_,xD (i:=1) (ud ak) _,?_,?_,?_,?_⟩
     ·rw[zct (ud ap),List.flatMap_append,List.length_append,List.flatMap_cons,List.flatMap_nil,List.append_nil,<-Nat.add_assoc,ud aC];exact a8
     ·show World.ownsRow _ _ _ _ _ _ _;rw[zct (ud ap),List.flatMap_append,List.length_append,List.length_take,Nat.min_eq_left hj,List.flatMap_cons,List.flatMap_nil,List.append_nil];exact u
     ·exact p.heap (l.heap (h.heap (ud aE) (by omega)) (fun e=>ud aG _ e rfl)) (by omega)
     ·exact p.heap (l.heap (h.heap (ud L) (by omega)) (fun e=>ud aI _ e rfl)) (by omega)
     ·have b1:=(ud HB).trans (h.below (ud HB).size (fun q e=>by omega));have b2:=b1.trans (l.below b1.size (fun q e=>ud aF q e));exact b2.trans (p.below b2.size (fun q e=>by omega))
    case measure=>
     have p:zi (fun q=>q=M) w5 (w5.setCell (U M 1) (.slice (J (U g3 0)) (j+1) s)):=zg (zi.refl _ _) rfl;have a8:=((ud am).kept (ud ah) (fun e=>ud a5 _ e rfl) (fun e=>ud aj _ e rfl)).kept p (by omega) (by omega);have m:=a8.left;have D:=ud S;have h3:=ud aL;have h4:=ud aD;have h5:=ud al;show zbZ (w5.setCell (U M 1) (.slice (J (U g3 0)) (j+1) s)) (w.1.size+3)<zbZ wr (w.1.size+3);omega
  ·have aR:j=r.2.length:=(by omega);subst aR;rw[List.take_length]at hR hS c0 ab;have h0:(KN r.1 r.2).length-(1+(r.2.flatMap ZV).length)=0:=(by unfold KN;rw[List.length_cons];omega);rw[h0]at c0;obtain⟨q0,q1,-⟩:=zc d;have qf:=fun i=>zw d i;have L:=ze d;have HS:=ze hS;have HB:=ze hB;have aW:¬M=w.1.size+1:=(by omega);clear hR o hS y d hB F av ab h0 S;go_wp2_with fail;have hf:=xD (i:=1) (xD (i:=0) (ud L) (I r.1)) (.slice va r.2.length vc);refine bodyPost_ret (v:=.tuple #[.agg #[I r.1,.slice va r.2.length vc],.bool true]) (xa results130 _ _ (w.1.size+1) _ _ _ _ _ rfl rfl hf underlying190 rfl (by kernel_rfl)) rfl ?_;have ax:zi (fun q=>q=w.1.size+1) wr ((wr.setCell (U (w.1.size+1) 0) (I r.1)).setCell (U (w.1.size+1) 1) (.slice va r.2.length vc)):=zg (zg (zi.refl _ _) rfl) rfl;exact⟨_,rfl,zh (ud HS) ax (zp (ud L) (ud HS) (by decide)),(ud HB).trans (ax.below (ud HB).size (fun q e=>by omega))⟩
attribute [local go_sem] Oper.semAt_some
noncomputable def zaR:Nat:=(prog.globalNamed "strings.asciiSpace").getD 0
theorem Qp.lt(h:Qp w):zaR<w.1.size:=by
 unfold Qp Lib.TabIs World.var? at h;unfold zaR;cases b:prog.globalNamed "strings.asciiSpace" with
 |none=>rw[b]at h;simp at h
 |some g=>
  rw[b]at h;show g<w.1.size;rcases Nat.lt_or_ge g w.1.size with a|a
  ·exact a
  ·simp only[Option.bind_some]at h;rw[Array.getElem?_eq_none a]at h;simp at h
theorem Qp.same(h:Qp w)(a:w'.1[zaR]?=w.1[zaR]?):Qp w':=by
 unfold Qp Lib.TabIs World.var? at*;unfold zaR at a;cases b:prog.globalNamed "strings.asciiSpace" with
 |none=>rw[b]at h;simp at h
 |some g=>
  rw[b]at h a;simp only[Option.bind_some,Option.getD_some]at h a ⊢;rw[a];exact h
theorem Qp.kept{f:Nat->Prop}(h:Qp w)(a:zi f w w')(hn:¬f zaR):Qp w':=h.same (a.block _ h.lt hn)
theorem ziI{name:String}{k:IntKind}{zs:List Int}{b:Nat}{T:ByteArray}{t:TypeId}{fr:Nat×Nat}(h:Lib.TabIs prog w name k zs)(c:w.1[b]?=J (.cells #[.string T] t fr))(d:zs.length≠1):¬(prog.globalNamed name).getD 0=b:=fun e=>by
 unfold Lib.TabIs World.var? at h;cases a:prog.globalNamed name with
 |none=>rw[a]at h;simp at h
 |some g=>
  rw[a]at h e;simp only[Option.bind_some,Option.getD_some]at h e;rw[e,c]at h;injection h with h;have:=congrArg Array.size h;simp at this;omega
structure Yh(c:Cf)(r:Rw):Prop where
 len:(kw r).length<4294967281
 now:0<=r.1/\r.1<=100000
 seg:∀x∈r.2,rdX c x
 num:r.2.length<=400000000
def xn(a:List Rw):MS:=a.foldl (fun m r=>m.took r.1 r.2) ms0
theorem vF(a:List Rw)(r:Rw):xn (a++[r])=(xn a).took r.1 r.2:=by unfold xn;rw[List.foldl_append];rfl
theorem rdX.wf(a:c.ok)(h:rdX c x):x.1.wf:=by
 have b:=h.t;have d:=h.sr;have e:=h.wn;have f:=a.n4;unfold Sg.wf xz;omega
structure RcI(X W:World)(i:Ids)(b:Nat)(c:Cf)(ep:Int)(m:MS)(q:JM):Prop where
 mill:zO W i c ep m q
 kept:zi (fun k=>zt X i k\/k=b) X W
 dsk:W.1[i.d]?=X.1[i.d]?
 asc:Qp W
theorem RcI.foot{X:World}{b:Nat}{q:JM}(h:RcI X W i b c ep m q):zt W i k↔zt X i k:=by
 have:fsB W i.d=fsB X i.d:=by unfold fsB World.cell?;simp only[h.dsk]
 unfold zt;rw[this]
theorem zdA(c:Cf)(hc:c.ok)(al:List {r:Rw//Yh c r})(aE:(xb (al.map (·.1))).size<=1000000000000)(az:∀rs:List {r:Rw//Yh c r},(xn (rs.map (·.1))).L.length<=2000020/\(xn (rs.map (·.1))).Gl.length<=2000020):
  XO c (xb (al.map (·.1))) (xn (al.map (·.1))) (fun i W=>Qp W/\∀k,zt W i k->k≠zaR):=by
 intro w i ep q b hM hb m ⟨hA,a9⟩;have p:z0 w.1.size w (w.alloc (.cells #[(O i.x)] 38)):=(C _ _).alloc (Y _) _;have E:=(p.block _ (zd hb)).trans hb;have ai:=zq w (.cells #[(O i.x)] 38);have aO:=zM w (.cells #[(O i.x)] 38);have ae:=hM.later p;have ag:∀k,zt (w.alloc (.cells #[(O i.x)] 38)) i k↔zt w i k:=fun k=>by
  have:fsB (w.alloc (.cells #[(O i.x)] 38)) i.d=fsB w i.d:=by unfold fsB World.cell?;simp only[p.block _ hM.dlt]
  unfold zt;rw[this]
 have a8:=hA.later p;have aJ:=zd hb;have af:¬zaR=b:=ziI hA hb (by decide);have aj:¬vR=b:=ziI hM.tab hb (by decide);have R:=ze p;have a3:=ze E;have au:=ze ai;have j:=ze ae;have t:=ze ag;have a1:=ze a8;have an:=ze a9;have a5:=ze m;have a4:=ze hM.foot_lt;have am:=ze af;have av:=ze aj;have aI:=ze hM.tn;clear hb p E ai hM ae ag hA a8 a9 m af aj;refine(callsIn_wide (n:=7)).1 ?_;refine callsIn_of_wp_marks func71 rfl trivial ?_ rfl;simp only[ntmps71,sZz,Nat.reduceAdd,Nat.reduceSub];refine wpIn_wide.2 ?_;go_wp2_with fail;generalize(w.alloc (.cells #[(O i.x)] 38))=X at*;have E:=zd (ud a3);refine(wpIn_wide (n:=7)).1 ?_;refine zoF (F:=Fence.wide) (n:=7) rfl (by omega) (gf:=202) (lb:=#[(O b)]) rfl trivial zcz E (zfR (fun x:{r:Rw//Yh c r}=>x.1) al aE b X (ud a3) 0) (Nat.zero_le _) (fun h k=>k.trans h) (fun W o o' _ _ _=>World.putObj_heap_other (by omega)) (C _ _) (fun _=>rfl)
  (fun H W=>RcI X W i b c ep (xn (H.map (·.1))) q) (fun _ _ _=>False) ?own (fun _ _ _ _ _ g _ _=>g) ?setb (fun _ _ _ _ g=>g) ?start
  (fun x a' W=>a'={tmps:=#[(O i.x),.func (.func 202) #[] #[(O b)],(O w.1.size),undef,.string (zgS x.1),undef,undef,.func (.func 202) #[] #[(O b)],.string (zgS x.1),undef,undef,undef,undef,undef,undef,undef,undef,undef,undef,undef,undef,undef,undef],defers:=[]}) (fun _ _ _ _ _ _ g _ _=>g) ?assign ?body ?done ?stop
 case own=>
  intro s A B row g hg hr;have f:zi (fun k=>X.1.size<=k) A B:=⟨hg.os,hg.tape,hg.output,hg.size,fun k f hn=>hg.block k f (fun e=>hn (hr k e.symm).1)⟩;have aB:=(ud j).dlt;exact⟨g.mill.kept f (fun k f e=>by have:=(ud j).foot_lt k (g.foot.1 f);omega) (fun e=>by have:=(ud j).tab.lt;omega),g.kept.trans f (fun k f e=>by omega),(f.block i.d g.mill.dlt (by omega)).trans g.dsk,g.asc.kept f (fun e=>by have:=(ud a1).lt;omega)⟩
 case setb=>
  intro s V v g;have f:zi (fun k=>k=b) V (V.setCell (U b 0) v):=zg (zi.refl _ _) rfl;have m:¬zt X i b:=fun e=>ud a5 ((ud t b).1 e);have aD:¬i.d=b:=fun e=>m (.inl (.inr (.inr (.inr (.inr e.symm)))));exact⟨g.mill.kept f (fun k f e=>m (by rw[<-e];exact g.foot.1 f)) (ud av),g.kept.trans f (fun k _ e=> .inr e),(f.block i.d g.mill.dlt aD).trans g.dsk,g.asc.kept f (ud am)⟩
 case start=>exact⟨ud j,zi.refl _ _,rfl,ud a1⟩
 case assign=>
  rintro l H y W K a hK;have HK:=ze hK;clear hK;gi_wp2;exact ud HK _ _ (zo (C _ _)) rfl a rfl
 case body=>
  rintro l H y a' W hl hr a rfl aK;have aH:=a.kept.size;have m:¬zt X i b:=fun e=>ud a5 ((ud t b).1 e);have hq:=a.kept.heap (ud au) (fun e=>by
   rcases e with e|e
   ·have:=ud a4 _ ((ud t _).1 e);omega
   ·omega)
  obtain⟨mp,-⟩:=zc hq;obtain⟨ta,tc,aF,-⟩:=a.mill.own.ts;have P:=a.mill.head;rw[aF]at P;obtain⟨x0,x1,x2,x3,x4,x5,x6,-⟩:=zc P;have xl:=zd P;have ql:=zd hq;have S:=fun V (hV:z0 W.1.size W V)=>ze (zlP (w:=V) y.1 y.2.len (a.asc.later hV) c hc ta tc y.2.now y.2.seg (Z y.2.num (by decide)));have Q:=S W (C _ _);have a6:=S W.drew (C _ _).drew;have M:=ze a;have HQ:=ze hq;have aM:prog.follows .mixedOrders=true:=by kernel_rfl
  clear a hq P hr S;gi_wp2;refine⟨trivial,?_⟩;refine(CallsIn.inRound l (callsIn_wide.2 (ud Q))).mono ?_;rintro e V ⟨v,rfl,hS,u⟩;obtain⟨va,vc,rfl⟩:=hS.slice;have a0:=(u.block _ ql).trans (ud HQ);obtain⟨aP,-⟩:=zc a0;have aQ:=zd a0;obtain⟨ax,ay⟩:=az H;have ah:=y.2.num;have ak:∀x∈y.1.2,x.1.wf:=fun x hx=>(y.2.seg x hx).wf hc;have a7:=fun U9 (hU:z0 V.1.size V U9)=>ze (zms ((ud M).mill.later (u.trans (hU.mono u.size))) y.1.1 y.1.2 ak (by omega) (by omega) W.1.size _ (xp hS hU));have a2:=ze u;clear hS u a0 ax ay ah ak Q a6 x0 x1 x2 x3 x4 x5 x6 mp;gi_wp2;have T:z0 V.1.size V (V.alloc (.cells #[I y.1.1,.slice va y.1.2.length vc] 190)):=(C _ _).alloc (Y _) _;have aw:=ze T;refine⟨trivial,?_⟩;refine(CallsIn.inRound l (callsIn_wide.2 (ud (a7 _ T)))).mono ?_;rintro e V3 ⟨rfl,ad,ab,aa⟩;have ar:=ze ad;have ap:=ze ab;have ao:=ze aa;clear T a7 ad ab aa;gi_wp2;have a:=ud M;have N:z0 W.1.size W (V.alloc (.cells #[I y.1.1,.slice va y.1.2.length vc] 190)):=(ud a2).trans ((ud aw).mono (ud a2).size);have aL:=a.mill.later N;have aC:∀k,zt (V.alloc (.cells #[I y.1.1,.slice va y.1.2.length vc] 190)) i k->zt X i k:=fun k e=>by
   have h1:fsB (V.alloc (.cells #[I y.1.1,.slice va y.1.2.length vc] 190)) i.d=fsB W i.d:=(by unfold fsB World.cell?;simp only[N.block _ a.mill.dlt]);refine a.foot.1 ?_;unfold zt at e ⊢;rw[h1]at e;exact e
  have G:zi (zt X i) W V3:=(zi.of_below N).trans ((ud ap).kept.mono (fun k _ e=>aC k e)) (fun _ _ e=>e);have aA:V3.1[i.d]?=W.1[i.d]?:=(ud ao).trans (N.block _ a.mill.dlt);refine⟨⟨G.size,fun k o f h0 _=>G.heap h0 (fun e=>by have:=(ud j).foot_lt k e;omega)⟩,G.block b (Nat.lt_of_lt_of_le E aH) m,?_,a.kept.trans G (fun k _ e=> .inl e),aA.trans a.dsk,a.asc.kept G (fun e=>ud an _ ((ud t _).1 e) rfl)⟩;rw[List.map_append,List.map_cons,List.map_nil,vF];exact ud ar
 case done=>
  rintro D xs W hD aG a ac;subst aG;have aq:=ze ac;have M:=ze a;clear a ac;gi_wp2;have a:=ud M;have aN:=(ud R).size;refine⟨by simp,.inl ⟨_,_,rfl,run_takeDeferred (ud aq),?_⟩⟩;have kp:zi (fun k=>k=D) W (W.putObj D (.deferred z)):=(zi.refl (fun k=>k=D) W).grown (grownBy_putObj' W D (.deferred z)) (fun k e _=>by cases e;rfl);have aB:=(ud j).dlt;have h1:zi (fun k=>zt w i k\/k=b) w W:=(zi.of_below (ud R)).trans a.kept (fun k _ e=>e.imp (fun e=>(ud t k).1 e) id);have hd:(W.putObj D (.deferred z)).1[i.d]?=X.1[i.d]?:=(kp.block i.d a.mill.dlt (by omega)).trans a.dsk;refine⟨_,results_none rfl _ _ _,rfl,a.mill.kept kp (fun k f e=>by have:=(ud j).foot_lt k (a.foot.1 f);have e':k=D:=e;omega) (fun e=>by have:=(ud j).tab.lt;have e':vR=D:=e;omega),⟨h1.trans kp (fun k f e=>by have e':k=D:=e;omega),fun k f=> .inl ?_⟩⟩;have h2:fsB (W.putObj D (.deferred z)) i.d=fsB X i.d:=by unfold fsB World.cell?;simp only[hd]
  rw[h2]at f;have h3:zt X i k:=.inr f;have h4:fsB X i.d=fsB w i.d:=by unfold fsB World.cell?;simp only[(ud R).block _ (ud a4 _ (.inl (.inr (.inr (.inr (.inr rfl))))))]
  rw[h4]at f;exact f
 case stop=>
  rintro D c H W hD _ hf;exact hf.elim
structure QIn(c:Cf)(q:List (Sg×Unit)×LV):Prop where
 nl:(zn q.2).Nodup
 ng:(zk q.1).Nodup
 il:∀k∈zn q.2,inR c k/\QK k
 ig:∀k∈zk q.1,inR c k/\QK k
theorem zeu(L:LV):zn L=zk L:=rfl
theorem QIn.put(h:QIn c q)(b:inR c x.1/\QK x.1):QIn c (jn q x):=by
 unfold jn;split
 ·refine⟨?_,qq h.ng,fun k a=>?_,fun k a=>?_⟩
  ·rw[zeu];exact qa h.nl
  ·rw[zeu,Q9]at a;exact h.il k (List.mem_filter.1 a).1
  ·rcases zZ.1 a with a|rfl
   ·exact h.ig k a
   ·exact b
 ·refine⟨yo h.nl,h.ng,fun k a=>?_,h.ig⟩;rcases xN.1 a with a|rfl
  ·exact h.il k a
  ·exact b
theorem QIn.puts{c:Cf}:∀(xs:List SX) {q:List (Sg×Unit)×LV},QIn c q->(∀x∈xs,inR c x.1/\QK x.1)->QIn c (qr q xs)
 |[],_,h,_=>h
 |x::xs,q,h,a=>QIn.puts xs (q:=jn q x) (h.put (a x (by simp))) (fun y b=>a y (by simp[b]))
theorem rdX.inR(a:c.ok)(h:rdX c x):inR c x.1/\QK x.1:=⟨⟨h.wf a,h.t.1,h.t.2,h.wn⟩,h.sr⟩
theorem zcd{c:Cf}(b:c.ok):∀(a:List Rw) (m:MS),(∀r∈a,Yh c r)->QIn c (m.Gl,m.L)->QIn c ((a.foldl (fun m r=>m.took r.1 r.2) m).Gl,(a.foldl (fun m r=>m.took r.1 r.2) m).L)
 |[],_,_,h=>h
 |r::a,m,d,h=>zcd b a (m.took r.1 r.2) (fun y f=>d y (by simp[f])) (h.puts r.2 (fun x e=>((d r (by simp)).seg x e).inR b))
theorem zpT(c:Cf):QIn c (ms0.Gl,ms0.L):=⟨List.nodup_nil,List.nodup_nil,(fun k a=>by cases a),(fun k a=>by cases a)⟩
theorem zgs(d:c.ok)(e:List {r:Rw//Yh c r}):(xn (e.map (·.1))).L.length<=2000020/\(xn (e.map (·.1))).Gl.length<=2000020:=by
 have h:=zcd d (e.map (·.1)) ms0 (fun r f=>by obtain⟨y,_,rfl⟩:=List.mem_map.1 f;exact y.2) (zpT c);have a:=zeO d h.nl h.il;have b:=zeO d h.ng h.ig;unfold zn at a;unfold zk at b;rw[List.length_map]at a b;exact⟨a,b⟩
theorem zjk(c:Cf)(d:c.ok)(a:List Rw)(f:∀r∈a,Yh c r)(b:(xb a).size<=1000000000000):XO c (xb a) (xn a) (fun i W=>Qp W/\∀k,zt W i k->k≠zaR):=by
 have e:(a.attach.map (fun x=>(⟨x.1,f x.1 x.2⟩:{r:Rw//Yh c r}))).map (·.1)=a:=by
  rw[List.map_map];exact List.attach_map_subtype_val a
 have h:=zdA c d (a.attach.map (fun x=>(⟨x.1,f x.1 x.2⟩:{r:Rw//Yh c r}))) (by rw[e];exact b) (zgs d);rw[e]at h;exact h
structure qk(q1 q2:List (Sg×Unit)×LV):Prop where
 n1:(zn q1.2).Nodup
 n2:(zn q2.2).Nodup
 g1:(zk q1.1).Nodup
 g2:(zk q2.1).Nodup
 live:∀k,zE q1.2 k=zE q2.2 k
 gone:∀k,k∈zk q1.1↔k∈zk q2.1
theorem qk.refl(a:(zn q.2).Nodup)(b:(zk q.1).Nodup):qk q q:=⟨a,a,b,b,fun _=>rfl,fun _=>Iff.rfl⟩
theorem Zr(hn:(zn L).Nodup)(s k:Sg)(v:SV):zE (qS L s v) k=if k=s then J v else zE L k:=vd (L:=L) hn s v k
theorem qk.put(h:qk q1 q2)(x:SX):qk (jn q1 x) (jn q2 x):=by
 unfold jn;split
 ·refine⟨?_,?_,qq h.g1,qq h.g2,fun k=>?_,fun k=>?_⟩
  ·rw[zeu];exact qa h.n1
  ·rw[zeu];exact qa h.n2
  ·show zE (zT q1.2 x.1) k=zE (zT q2.2 x.1) k;rw[jR h.n1,jR h.n2,h.live]
  ·show k∈zk (qj q1.1 x.1 ())↔k∈zk (qj q2.1 x.1 ());rw[zZ,zZ,h.gone]
 ·refine⟨yo h.n1,yo h.n2,h.g1,h.g2,fun k=>?_,h.gone⟩;show zE (qS q1.2 x.1 x.2) k=zE (qS q2.2 x.1 x.2) k;rw[Zr h.n1,Zr h.n2,h.live]
theorem qk.puts:∀(xs:List SX) {q1 q2:List (Sg×Unit)×LV},qk q1 q2->qk (qr q1 xs) (qr q2 xs)
 |[],_,_,h=>h
 |x::xs,q1,q2,h=>qk.puts xs (q1:=jn q1 x) (q2:=jn q2 x) (h.put x)
theorem Jj(a:List Rw)(now:Int)(xs:List SX):xb (a++[(now,xs)])=xb a++(xm now xs++nl):=by
 apply ByteArray.ext;simp[xb,kw,xm,nl,ByteArray.data_append]
theorem Qd(now:Int)(xs:List SX):xb [(now,xs)]=xm now xs++nl:=by
 apply ByteArray.ext;simp[xb,kw,xm,nl,ByteArray.data_append]
theorem zeV{α:Type}{P:List α->Prop}(b:P [])(c:∀l a,P l->P (l++[a])):∀l,P l:=by
 intro l;have h:∀l:List α,P l.reverse:=by
  intro l;induction l with
  |nil=>exact b
  |cons a l e=>rw[List.reverse_cons];exact c _ _ e
 have d:=h l.reverse;rwa[List.reverse_reverse]at d
theorem zjd(xs:List SX):(zn (qr ([],[]) xs).2).Nodup/\(zk (qr ([],[]) xs).1).Nodup:=
 have h:=qk.puts xs (qk.refl (q:=(([]:List (Sg×Unit)),([]:LV))) List.nodup_nil List.nodup_nil)
 ⟨h.n1,h.g1⟩
theorem zlI:∀ys:List SX,(ys.map (·.1)).Nodup->(∀k v,zE (qr ([],[]) ys).2 k=J v↔(k,v)∈ys/\v.st≠4)/\(∀k,k∈zk (qr ([],[]) ys).1↔∃v,(k,v)∈ys/\v.st=4):=by
 refine zeV ?_ ?_
 ·intro _;exact⟨fun k v=>⟨fun h=>(by cases h),fun h=>(by cases h.1)⟩,fun k=>⟨fun h=>(by cases h),fun⟨v,h,_⟩=>(by cases h)⟩⟩
 ·intro l x j hn;rw[List.map_append,List.nodup_append]at hn;obtain⟨n1,-,m⟩:=hn;have g:∀v,(x.1,v)∉l:=fun v c=>m x.1 (List.mem_map.2 ⟨_,c,rfl⟩) x.1 (by simp) rfl;obtain⟨i,i2⟩:=j n1;obtain⟨f,n⟩:=zjd l;rw[jH];unfold jn;split
  ·rename_i h4;refine⟨fun k v=>?_,fun k=>?_⟩
   ·show zE (zT (qr ([],[]) l).2 x.1) k=J v↔_;rw[jR f];by_cases e:k=x.1
    ·rw[if_pos e];constructor
     ·intro h;cases h
     ·rintro⟨c,hv⟩;rcases List.mem_append.1 c with c|c
      ·exact absurd (e▸c) (g v)
      ·have d:=List.mem_singleton.1 c;exact absurd (show v.st=4 by rw[<-h4,<-d]) hv
    ·rw[if_neg e,i];constructor
     ·rintro⟨a,b⟩;exact⟨List.mem_append_left _ a,b⟩
     ·rintro⟨a,b⟩;rcases List.mem_append.1 a with a|a
      ·exact⟨a,b⟩
      ·exact absurd (congrArg Prod.fst (List.mem_singleton.1 a)) e
   ·show k∈zk (qj (qr ([],[]) l).1 x.1 ())↔_;rw[zZ,i2];constructor
    ·rintro(⟨v,a,b⟩|rfl)
     ·exact⟨v,List.mem_append_left _ a,b⟩
     ·exact⟨x.2,List.mem_append_right _ (by simp),h4⟩
    ·rintro⟨v,a,b⟩;rcases List.mem_append.1 a with a|a
     ·exact .inl ⟨v,a,b⟩
     ·exact .inr (congrArg Prod.fst (List.mem_singleton.1 a))
  ·rename_i h4;refine⟨fun k v=>?_,fun k=>?_⟩
   ·show zE (qS (qr ([],[]) l).2 x.1 x.2) k=J v↔_;rw[Zr f];by_cases e:k=x.1
    ·rw[if_pos e];constructor
     ·intro h;have d:x.2=v:=Option.some.inj h;exact⟨List.mem_append_right _ (by rw[e,<-d];simp),by rw[<-d];exact h4⟩
     ·rintro⟨c,hv⟩;rcases List.mem_append.1 c with c|c
      ·exact absurd (e▸c) (g v)
      ·rw[<-List.mem_singleton.1 c]
    ·rw[if_neg e,i];constructor
     ·rintro⟨a,b⟩;exact⟨List.mem_append_left _ a,b⟩
     ·rintro⟨a,b⟩;rcases List.mem_append.1 a with a|a
      ·exact⟨a,b⟩
      ·exact absurd (congrArg Prod.fst (List.mem_singleton.1 a)) e
   ·show k∈zk (qr ([],[]) l).1↔_;rw[i2];constructor
    ·rintro⟨v,a,b⟩;exact⟨v,List.mem_append_left _ a,b⟩
    ·rintro⟨v,a,b⟩;rcases List.mem_append.1 a with a|a
     ·exact⟨v,a,b⟩
     ·have d:=List.mem_singleton.1 a;exact absurd (show x.2.st=4 by rw[<-d];exact b) h4
theorem zdK(h:yu c now L Gl){p:Sg×SV}(a:p∈L):p.2.st≠4:=by
 have d:=(h.inr p a).2.1;by_cases b:p.1.t= -1
 ·have:=(h.raw p a b).1;omega
 ·have:=h.tier p a (by omega);omega
theorem zns(h:yu c now L Gl):((yJ L Gl).map (·.1)).Nodup:=by
 have e:(yJ L Gl).map (·.1)=zn L++zk Gl:=by unfold yJ zn zk;rw[List.map_append,List.map_map];rfl
 rw[e,List.nodup_append];refine⟨h.nl,h.ng,fun a d b f e=>?_⟩;obtain⟨p,g,rfl⟩:=List.mem_map.1 d;exact h.disj p g (e▸f)
theorem zbX(h:yu c now L Gl){ys:List SX}(d:ys.Perm (yJ L Gl)):qk (qr ([],[]) ys) (Gl,L):=by
 have hn:(ys.map (·.1)).Nodup:=(d.map _).nodup_iff.2 (zns h);obtain⟨a1,a2⟩:=zlI ys hn;obtain⟨i,j⟩:=zjd ys;refine⟨i,h.nl,j,h.ng,fun k=>?_,fun k=>?_⟩
 ·apply Option.ext;intro v;rw[a1,d.mem_iff];constructor
  ·rintro⟨a,b⟩;rcases List.mem_append.1 a with a|a
   ·exact(XX h.nl).2 a
   ·obtain⟨g,_,e⟩:=List.mem_map.1 a;exact absurd (show v.st=4 by have:=congrArg (fun p:SX=>p.2.st) e;simpa[Ym]using this.symm) b
  ·intro a;have b:=(XX h.nl).1 a;exact⟨List.mem_append_left _ b,zdK h b⟩
 ·rw[a2];constructor
  ·rintro⟨v,a,b⟩;rw[d.mem_iff]at a;rcases List.mem_append.1 a with a|a
   ·exact absurd b (zdK h a)
   ·obtain⟨g,f,e⟩:=List.mem_map.1 a;have:=congrArg Prod.fst e;exact List.mem_map.2 ⟨g,f,this⟩
  ·intro a;obtain⟨g,f,e⟩:=List.mem_map.1 a;exact⟨⟨4,qA⟩,d.mem_iff.2 (List.mem_append_right _ (List.mem_map.2 ⟨g,f,by unfold Ym;rw[<-e]⟩)),rfl⟩
theorem ki.rows(l:c.ok)(h:ki c 1 m ns txt):∃a:List Rw,txt=xb a/\(xn a).now=m.now/\qk ((xn a).Gl,(xn a).L) (m.Gl,m.L):=by
 induction h with
 |start m ns txt s u t n j=>
  obtain⟨rfl,rfl,rfl⟩:=j rfl;exact⟨[(0,[])],(Qd 0 []).symm,rfl,qk.refl List.nodup_nil List.nodup_nil⟩
 |laid m ns txt m' ns' xs h k v g f r o q b=>
  obtain⟨a,e,i,d⟩:=b;refine⟨a++[(m'.now,xs)],by rw[Jj,e],by rw[vF];rfl,?_⟩;rw[vF,g,f];exact d.puts xs
 |quiet m ns txt m' ns' h k hn g f b=>
  obtain⟨a,e,i,d⟩:=b;exact⟨a,e,by rw[i,hn],by rw[g,f];exact d⟩
 |anew m ns txt ys h p b=>
  exact⟨[(m.now,ys)],(Qd m.now ys).symm,rfl,zbX (h.sok l).ok.seg p⟩
theorem zlJ(q:List (Sg×Unit)×LV)(i:(zn q.2).Nodup)(g:(zk q.1).Nodup):∀xs:List SX,(xs.map (·.1)).Nodup->∀x∈xs,(x.2.st≠4->zE (qr q xs).2 x.1=J x.2)/\(x.2.st=4->x.1∈zk (qr q xs).1):=by
 refine zeV ?_ ?_
 ·intro _ x b;cases b
 ·intro l y j hn x b;rw[List.map_append,List.nodup_append]at hn;obtain⟨n1,-,k⟩:=hn;have d:=qk.puts l (qk.refl (q:=q) i g);rw[jH];rcases List.mem_append.1 b with b|b
  ·obtain⟨f,i2⟩:=j n1 x b;have c:¬x.1=y.1:=fun e=>k x.1 (List.mem_map.2 ⟨x,b,rfl⟩) y.1 (by simp) e;unfold jn;split
   ·refine⟨fun a=>?_,fun a=>zZ.2 (.inl (i2 a))⟩;show zE (zT (qr q l).2 y.1) x.1=_;rw[jR d.n1,if_neg c];exact f a
   ·refine⟨fun a=>?_,i2⟩;show zE (qS (qr q l).2 y.1 y.2) x.1=_;rw[Zr d.n1,if_neg c];exact f a
  ·rw[List.mem_singleton]at b;subst b;unfold jn;split
   ·rename_i a;exact⟨fun h=>absurd a h,fun _=>zZ.2 (.inr rfl)⟩
   ·rename_i a;refine⟨fun _=>?_,fun h=>absurd h a⟩;show zE (qS (qr q l).2 x.1 x.2) x.1=_;rw[Zr d.n1,if_pos rfl]
theorem XK.more(h:XK c ep m ns m' ns'):ns.length<=ns'.length:=by
 cases h<;>simp
def znh(m:MS):Prop:=∀p∈m.L,p.2.st=3->1<=p.2.cl.cnt/\p.2.cl.cnt<=2147483647
theorem zjf(k:c.ok)(g:SOk c ep m nn)(j:znh m)(e:x∈m.L)(f:okX x)(hn:okN x):rdX c x:=by
 have d:=g.ok.seg.inr x e;have b:=g.lin x.1 (List.mem_map.2 ⟨x,e,rfl⟩);have n:=zdK g.ok.seg e;by_cases i:x.1.t= -1
 ·obtain⟨r1,r2,r3,r4⟩:=g.ok.seg.raw x e i;have r5:=g.ok.seg.cnt k x e i;exact⟨⟨d.2.1,d.2.2.1⟩,b,d.2.2.2,by omega,fun _=>⟨r2,by omega,f.sum,f.mn,f.mx⟩,fun h=>by rw[r1]at h;exact absurd h (by decide),fun _=>⟨fun _=>i,fun _=>r1⟩⟩
 ·have a:=g.ok.seg.tier x e (by have:=d.2.1;omega);refine⟨⟨d.2.1,d.2.2.1⟩,b,d.2.2.2,by omega,fun h=>?_,fun h=>?_,fun _=>⟨fun h=>by omega,fun h=>absurd h i⟩⟩
  ·rcases a with a|a
   ·rw[a]at h;exact absurd h (by decide)
   ·obtain⟨l,k2⟩:=j x e a;exact⟨l,k2,f.sum,f.mn,f.mx⟩
  ·rcases a with a|a
   ·exact hn (.inl a)
   ·rw[a]at h;exact absurd h (by decide)
theorem zje(e:SOk c ep m nn)(b:x.2.st=4)(f:x.1∈zk m.Gl)(hn:okN x):rdX c x:=by
 obtain⟨d,a⟩:=e.gin x.1 f;exact⟨⟨d.2.1,d.2.2.1⟩,a,d.2.2.2,by omega,fun h=>by rw[b]at h;exact absurd h (by decide),fun _=>hn (.inr b),fun h=>absurd b h⟩
theorem KQ(hn:0<=now/\now<=100000)(a:∀x∈xs,okX x)(b:∀x∈xs,rdX c x)(e:xs.length<=2000420):Yh c (now,xs):=by
 have d:=kE (now:=now) (xs:=xs) (by unfold xz;omega) a;refine⟨?_,hn,b,by show xs.length<=400000000;omega⟩;show(Zd now xs++[10]).length<4294967281;rw[List.length_append];simp only[List.length_cons,List.length_nil];omega
theorem ki.rowsR(j:c.ok)(H:∀m ns txt,ki c 1 m ns txt->ns.length<=N->znh m)(h:ki c 1 m ns txt)(s:ns.length<=N):∃i:List Rw,txt=xb i/\(xn i).now=m.now/\qk ((xn i).Gl,(xn i).L) (m.Gl,m.L)/\∀r∈i,Yh c r:=by
 induction h with
 |start m ns txt S f T M F=>
  obtain⟨rfl,rfl,rfl⟩:=F rfl;refine⟨[(0,[])],(Qd 0 []).symm,rfl,qk.refl List.nodup_nil List.nodup_nil,fun r b=>?_⟩;rw[List.mem_singleton]at b;subst b;exact KQ (by omega) (fun x d=>by cases d) (fun x d=>by cases d) (by simp)
 |laid m ns txt m' ns' xs h t d o n l p D v=>
  obtain⟨i,e,E,w,y⟩:=v (Z t.more s);have G:ki c 1 m' ns' (txt++(xm m'.now xs++nl)):=.laid m ns txt m' ns' xs h t d o n l p D;have f:=h.sok j;have k:=G.sok j;have I:=H _ _ _ G s;refine⟨i++[(m'.now,xs)],by rw[Jj,e],by rw[vF];rfl,by rw[vF,o,n];exact w.puts xs,fun r b=>?_⟩;rcases List.mem_append.1 b with b|b
  ·exact y r b
  ·rw[List.mem_singleton]at b;subst b;refine KQ k.ok.now d (fun x a=>?_) (by omega);obtain⟨O,P⟩:=zlJ (m.Gl,m.L) f.ok.seg.nl f.ok.seg.ng xs p x a;by_cases A:x.2.st=4
   ·exact zje k A (by rw[n];exact P A) (l x a)
   ·exact zjf j k I (by rw[o];exact zA (O A)) (d x a) (l x a)
 |quiet m ns txt m' ns' h t hn o n v=>
  obtain⟨i,e,E,w,y⟩:=v (Z t.more s);exact⟨i,e,by rw[E,hn],by rw[o,n];exact w,y⟩
 |anew m ns txt ys h u v=>
  have f:=h.sok j;refine⟨[(m.now,ys)],(Qd m.now ys).symm,rfl,zbX f.ok.seg u,fun r b=>?_⟩;rw[List.mem_singleton]at b;subst b;have F:=f.ok.seg.len400 j;have Q:=f.gl j;have R:ys.length=m.L.length+m.Gl.length:=by rw[u.length_eq];unfold yJ;rw[List.length_append,List.length_map]
  refine KQ f.ok.now (fun x d=>h.okA x (u.mem_iff.1 d)) (fun x d=>?_) (by omega);have a:=u.mem_iff.1 d;have B:=h.okA x a;have q:=h.okN x a;rcases List.mem_append.1 a with a|a
  ·exact zjf j f (H _ _ _ h s) a B q
  ·obtain⟨g,K,rfl⟩:=List.mem_map.1 a;exact zje f rfl (List.mem_map.2 ⟨g,K,rfl⟩) q
theorem zcO{P:Nm->Prop}[DecidablePred P](f:Nm->Int){ns:List Nm}(a:∀x∈ns,P x->0<=f x)(c:∀w:Int,yj (fun x=>P x/\f x=w) ns<=400):∀K:Nat,yj (fun x=>P x/\f x<(K:Int)) ns<=400*(K:Int)
 |0=>by
  rw[qF.2 (fun x g h=>by have:=a x g h.1;have:=h.2;omega)];simp
 |K+1=>by
  have i:=zcO f a c K;have b:=(Jz (P:=fun x=>P x/\f x<(K:Int)) (Q:=fun x=>P x/\f x=(K:Int)) (R:=fun x=>P x/\f x<((K+1:Nat):Int)) (ns:=ns) (fun x _=>⟨fun h=>by
   by_cases e:f x=(K:Int)
   ·exact .inr ⟨h.1,e⟩
   ·exact .inl ⟨h.1,by have:=h.2;omega⟩,fun h=>h.elim (fun h=>⟨h.1,by have:=h.2;omega⟩) (fun h=>⟨h.1,by have:=h.2;omega⟩)⟩) (fun x _ h=>by have b:=h.1.2;have d:=h.2.2;omega)).1
  have d:=c (K:Int);rw[b];omega
theorem zeb{A B:Nm->Prop}[DecidablePred A][DecidablePred B](h:∀x∈ns,A x->B x):yj A ns<=yj B ns:=by
 have d:=(Jz (P:=A) (Q:=fun x=>B x/\¬A x) (R:=B) (ns:=ns) (fun x c=>⟨fun b=>by
  by_cases a:A x
  ·exact .inl a
  ·exact .inr ⟨b,a⟩,fun e=>e.elim (fun a=>h x c a) (fun e=>e.1)⟩) (fun x _ e=>e.2.2 e.1)).1
 have f:=(yb (P:=fun x=>B x/\¬A x) ns).1;omega
theorem zeI(D:c.ok)(B:XK c ep m ns m' ns')(f:yu c m'.now m'.L m'.Gl)(A:X6 c m' ns')(b:∀s:Sg,yj (fun x=>zG c (-1) x=s) ns<=400):∀s:Sg,yj (fun x=>zG c (-1) x=s) ns'<=400:=by
 intro s;cases B with
 |added x H I K M N=>
  by_cases e:zG c (-1) x=s
  ·have o:s∈zn (yv c m.L x):=by
    unfold yv;rw[Qz];left;unfold qW;rw[xN];exact .inr e.symm
   obtain⟨p,a,d⟩:=List.mem_map.1 o;have j:p.1.t= -1:=(by rw[d,<-e];rfl);have h:=f.cnt D p a j;have F:=(f.raw p a j).1;have w:=(A.cell p a (by omega)).cnt;have i:=(vn (P:=fun x=>zG c (-1) x=s) (Q:=fun x=>zG c p.1.t x=p.1) (ns:=ns++[x]) (fun y _=>by rw[j,d])).1;rw[i,<-w];exact h
  ·rw[(Zo x ns).1,if_neg e];have:=b s;omega
 |same=>exact b s
 |ticked n v TL' u hn q O R a=>exact b s
 |taken p slot a E=>exact b s
 |failed t g x l r=>exact b s
 |rolled t g G se ti rest k TL' l r o a=>exact b s
 |reclaimed t g G se ti rest TL' l r a=>exact b s
theorem ki.rinv(d:c.ok)(l:(N:Int)<9223372036854775808)(h:ki c 1 m ns txt):ns.length<=N->X6 c m ns:=by
 have g:=h.fits;induction h with
 |start m ns txt n u s o i=>intro _;obtain⟨rfl,rfl,rfl⟩:=i rfl;exact X6.start c 0
 |laid m ns txt m' ns' xs h a v k j r p q b=>intro e;have f:=Z a.more e;exact X6.act d g (h.sok d) (b f) (by omega) a
 |quiet m ns txt m' ns' h a hn k j b=>intro e;have f:=Z a.more e;exact X6.act d g (h.sok d) (b f) (by omega) a
 |anew m ns txt ys h t b=>exact b
theorem ki.raw400(b:c.ok)(f:(N:Int)<9223372036854775808)(h:ki c 1 m ns txt):ns.length<=N->∀s:Sg,yj (fun x=>zG c (-1) x=s) ns<=400:=by
 induction h with
 |start m ns txt p v t q o=>intro _ s;obtain⟨rfl,rfl,rfl⟩:=o rfl;simp[yj]
 |laid m ns txt m' ns' xs h a r j i n k l g=>
  intro e;have d:ki c 1 m' ns' (txt++(xm m'.now xs++nl)):=.laid m ns txt m' ns' xs h a r j i n k l;exact zeI b a (d.sok b).ok.seg (d.rinv b f e) (g (Z a.more e))
 |quiet m ns txt m' ns' h a hn j i g=>
  intro e;have d:ki c 1 m' ns' txt:=.quiet m ns txt m' ns' h a hn j i;exact zeI b a (d.sok b).ok.seg (d.rinv b f e) (g (Z a.more e))
 |anew m ns txt ys h u g=>exact g
theorem ki.cntOk(g:c.ok)(b:(N:Int)<9223372036854775808)(h:ki c 1 m ns txt)(n:ns.length<=N):znh m:=fun p q u=>by
 have f:=h.rinv g b n;have d:=h.raw400 g b n;have v:=(f.cell p q (by omega)).cnt;have k:c.wh (-1)=c.wi:=by unfold Cf.wh zQ;simp
 have j:=g.wh (t:= -1) (by omega) (by omega);rw[k]at j;have o:=(h.sok g).ok.now;constructor
 ·obtain⟨x,a,e⟩:=f.has p.1 (Zw q);have D:yj (fun x=>zG c p.1.t x=p.1) ns≠0:=fun s=>(qF.1 s) x a e;have:=(yb (P:=fun x=>zG c p.1.t x=p.1) ns).1;omega
 ·have A:=zcO (P:=fun x=>zG c p.1.t x=p.1) (fun x=>x.tm/c.wi) (ns:=ns) (fun x a _=>Int.ediv_nonneg (f.tm x a).1 (by omega)) (fun w=>by
   refine Int.le_trans (zeb (B:=fun x=>zG c (-1) x=⟨-1,p.1.sr,w⟩) (fun x a h=>?_)) (d _);have r:x.sr=p.1.sr:=congrArg Sg.sr h.1;unfold zG;rw[k,h.2,r]) 100001
  have i:=(vn (P:=fun x=>zG c p.1.t x=p.1) (Q:=fun x=>zG c p.1.t x=p.1/\x.tm/c.wi<((100001:Nat):Int)) (ns:=ns) (fun x a=>⟨fun h=>⟨h,by
   have l:=f.tm x a;have y:x.tm/c.wi<=x.tm:=Int.ediv_le_self _ l.1;have u:=l.2.1;show x.tm/c.wi<100001;omega⟩,fun h=>h.1⟩)).1
  rw[v,i];omega
theorem ki.read(d:c.ok)(h:ki c 1 m ns txt)(f:ns.length<=4398046511104):∃a:List Rw,txt=xb a/\(xn a).now=m.now/\qk ((xn a).Gl,(xn a).L) (m.Gl,m.L)/\∀r∈a,Yh c r:=
 h.rowsR d (N:=4398046511104) (fun m ns txt e b=>e.cntOk d (N:=4398046511104) (by decide) b) f
theorem J6(h:(zn L).Nodup):L.Nodup:=by
 unfold zn at h;rw[List.nodup_iff_pairwise_ne]at h ⊢;rw[List.pairwise_map]at h;exact h.imp (fun a e=>a (congrArg Prod.fst e))
theorem J5(h:(zk G).Nodup):G.Nodup:=by
 unfold zk at h;rw[List.nodup_iff_pairwise_ne]at h ⊢;rw[List.pairwise_map]at h;exact h.imp (fun a e=>a (congrArg Prod.fst e))
theorem qk.perm(h:qk q1 q2):q1.2.Perm q2.2/\q1.1.Perm q2.1:=by
 refine⟨(List.perm_ext_iff_of_nodup (J6 h.n1) (J6 h.n2)).2 (fun p=>?_),(List.perm_ext_iff_of_nodup (J5 h.g1) (J5 h.g2)).2 (fun p=>?_)⟩
 ·obtain⟨k,v⟩:=p;rw[<-XX h.n1,<-XX h.n2,h.live]
 ·obtain⟨k,u⟩:=p;have c:(k,u)∈q1.1↔k∈zk q1.1:=⟨fun a=>List.mem_map.2 ⟨_,a,rfl⟩,fun a=>by obtain⟨g,b,rfl⟩:=List.mem_map.1 a;exact b⟩;have d:(k,u)∈q2.1↔k∈zk q2.1:=⟨fun a=>List.mem_map.2 ⟨_,a,rfl⟩,fun a=>by obtain⟨g,b,rfl⟩:=List.mem_map.1 a;exact b⟩;rw[c,d,h.gone]
theorem yu.perm{b:LV}{f:List (Sg×Unit)}(h:yu c now L G)(g:b.Perm L)(l:f.Perm G):yu c now b f:=by
 have d:∀p,p∈b↔p∈L:=fun p=>g.mem_iff;have n:∀k,k∈zn b↔k∈zn L:=fun k=>(g.map (·.1)).mem_iff;have j:∀k,k∈zk f↔k∈zk G:=fun k=>(l.map (·.1)).mem_iff;have q:(zn b).Nodup:=by unfold zn;exact(g.map (fun p:Sg×SV=>p.1)).nodup_iff.2 h.nl
 have o:(zk f).Nodup:=by unfold zk;exact(l.map (fun p:Sg×Unit=>p.1)).nodup_iff.2 h.ng
 refine⟨fun p a=>h.inr p ((d p).1 a),q,fun p a=>h.raw p ((d p).1 a),fun p a=>h.tier p ((d p).1 a),fun p a i=>h.disj p ((d p).1 a) ((j _).1 i),o,fun p a=>h.pubc p ((d p).1 a),fun k i=>h.goc k ((j k).1 i),fun p a m=>?_,?_⟩
 ·rw[n,j];exact h.above p ((d p).1 a) m
 ·have e:zV b=zV L:=vK (g.map _);rw[e];exact h.used
theorem SOk.back(h:SOk c 1 m nn)(hn:m'.now=m.now)(j:qk (m'.Gl,m'.L) (m.Gl,m.L))(g:m'.TL=[])(a:m'.QL=[])(i:m'.num=0):SOk c ep' m' nn:=by
 obtain⟨f,l⟩:=j.perm;refine⟨⟨by rw[hn];exact h.ok.now,by rw[hn];exact h.ok.seg.perm f l,(by rw[g];intro p d;cases d),(by rw[g];exact List.nodup_nil),(by rw[a];intro p d;cases d),(by rw[a];exact List.nodup_nil),(by rw[a];exact List.nodup_nil),by omega⟩,fun k b=>h.gin k ((j.gone k).1 b),fun k b=>h.lin k ((f.map (·.1)).mem_iff.1 b),?_⟩;have e:Xu m'.L=Xu m.L:=vK (f.map _);rw[e];exact h.held
theorem qk.symm(h:qk q1 q2):qk q2 q1:=⟨h.n2,h.n1,h.g2,h.g1,fun k=>(h.live k).symm,fun k=>(h.gone k).symm⟩
theorem qk.trans{b:List (Sg×Unit)×LV}(h:qk q1 q2)(a:qk q2 b):qk q1 b:=⟨h.n1,a.n2,h.g1,a.g2,fun k=>(h.live k).trans (a.live k),fun k=>(h.gone k).trans (a.gone k)⟩
theorem qk.st1(h:qk q1 q2):stL q1.2=stL q2.2:=funext fun k=>by
 have:ko q1.2 k=ko q2.2 k:=h.live k;unfold Go.Proofs.YtndhpgciopcncaaGreatDoor.stL;rw[this]
theorem qk.keys(h:qk q1 q2)(k:Sg):k∈zn q1.2↔k∈zn q2.2:=(h.perm.1.map (·.1)).mem_iff
theorem qk.query(h:qk q1 q2)(t sr wn:Int):qY c now q1.1 q1.2 t sr wn=qY c now q2.1 q2.2 t sr wn:=by
 have e:stG q1.1 q1.2 ⟨t,sr,wn⟩=stG q2.1 q2.2 ⟨t,sr,wn⟩:=by
  by_cases a:(⟨t,sr,wn⟩:Sg)∈zk q1.1
  ·have b:=(h.gone _).1 a;obtain⟨p,k,f⟩:=List.mem_map.1 a;obtain⟨l,d,g⟩:=List.mem_map.1 b;have i:zE q1.1 ⟨t,sr,wn⟩=J p.2:=f▸xt h.g1 k;have j:zE q2.1 ⟨t,sr,wn⟩=J l.2:=g▸xt h.g2 d;unfold stG;rw[i,j]
  ·rw[YJ a,YJ (fun e=>a ((h.gone _).2 e)),h.st1]
 unfold qY;rw[e]
def vx(c:Cf)(m:MS):Prop:=∃Bs:List (Sg×Unit),(∀x,x∈zk Bs↔∃k,k∈zn m.L/\(stL m.L k).st=2/\x∈yw c k)/\∀k:Jk,k∈zk m.TL↔∃s∈zn m.L,(yU c Bs m.L m.now s=true/\k=⟨1,s⟩)\/(yT c m.L m.now s=true/\k=⟨2,s⟩)
theorem vx.of(f:c.ok)(g:c.fits)(d:MOk c ep m)(h:X6 c m ns)(b:Xm c m):vx c m:=by
 obtain⟨Bs,e,l,n⟩:=b;refine⟨Bs,e,fun k=>⟨fun o=>?_,?_⟩⟩
 ·obtain⟨p,b,rfl⟩:=List.mem_map.1 o;have i:=d.td p b;refine⟨p.2.s,i.mem,?_⟩;rw[i.key];unfold Tsk.key Tsk.kd;by_cases a:p.2.rl=true
  ·exact .inl ⟨zeA f g d h e b a,by rw[if_pos a]⟩
  ·exact .inr ⟨zez f g d h b (by simpa using a),by rw[if_neg a]⟩
 ·rintro⟨s,j,⟨a,rfl⟩|⟨a,rfl⟩⟩
  ·exact l s j a
  ·exact n s j a
theorem vx.new(h:xB c {m with TL:=[]} m.TL):vx c m:=by
 obtain⟨Bs,i,-,f⟩:=xB.get (m:={m with TL:=[]}) List.nodup_nil h;refine⟨Bs,i,fun k=>?_⟩;constructor
 ·intro g;obtain⟨p,l,rfl⟩:=List.mem_map.1 g;obtain⟨x,j⟩:∃x,zE m.TL p.1=J x:=by
   cases e:zE m.TL p.1 with
   |none=>exact absurd g (xy.1 e)
   |some x=>exact⟨x,rfl⟩
  rcases(f _ _).1 j with e|⟨-,s,b,⟨a,d,-⟩|⟨a,d,-⟩⟩
  ·cases e
  ·exact⟨s,b,.inl ⟨a,d⟩⟩
  ·exact⟨s,b,.inr ⟨a,d⟩⟩
 ·rintro⟨s,b,⟨a,rfl⟩|⟨a,rfl⟩⟩
  ·exact List.mem_map.2 ⟨_,zA ((f _ _).2 (.inr ⟨rfl,s,b,.inl ⟨a,rfl,rfl⟩⟩)),rfl⟩
  ·exact List.mem_map.2 ⟨_,zA ((f _ _).2 (.inr ⟨rfl,s,b,.inr ⟨a,rfl,rfl⟩⟩)),rfl⟩
theorem vx.same(h:vx c m)(n:vx c m')(hn:m.now=m'.now)(g:qk (m.Gl,m.L) (m'.Gl,m'.L))(k:Jk):k∈zk m.TL↔k∈zk m'.TL:=by
 obtain⟨Bs,q,r⟩:=h;obtain⟨a,d,e⟩:=n;have b:stL m.L=stL m'.L:=g.st1;have f:∀k,k∈zn m.L↔k∈zn m'.L:=g.keys;have i:∀s,zE Bs s=z↔zE a s=z:=fun s=>by
  rw[xy,xy,q,d,b];simp only[f]
 have l:∀s,yU c Bs m.L m.now s=yU c a m'.L m'.now s:=fun s=>by
  unfold yU;rw[b,hn];congr 2;have:=i s;cases o:zE Bs s<;>cases p:zE a s<;>simp[o,p]at this ⊢
 have j:∀s,yT c m.L m.now s=yT c m'.L m'.now s:=fun s=>by
  unfold yT Zs;rw[b,hn]
 rw[r,e];simp only[l,j,f]
def Zk(k:Jk):Tsk:=⟨decide (k.kd=1),k.s,0,0,0⟩
theorem kN(x:Tsk):(Zk x.key).kd=x.kd/\(Zk x.key).s=x.s:=by
 obtain⟨rl,s,a,b,d⟩:=x;cases rl<;>exact⟨rfl,rfl⟩
theorem znz(x y:Tsk):qE (Zk x.key) (Zk y.key)=qE x y:=by
 unfold qE;rw[(kN x).1,(kN x).2,(kN y).1,(kN y).2]
theorem zbu(h:jw TL ts)(a:∀p∈TL,p.1=p.2.key):(ts.map Tsk.key).Perm (zk TL):=by
 refine(h.perm.map _).trans ?_;rw[List.map_map];unfold zk;have e:TL.map (Tsk.key∘fun p=>p.2)=TL.map (·.1):=List.map_congr_left (fun p b=>(a p b).symm);rw[e]
theorem zik{TL':List (Jk×Tsk)}{c:List Tsk}(h:jw TL ts)(u:jw TL' c)(E:∀p∈TL,p.1=p.2.key)(g:∀p∈TL',p.1=p.2.key)(hn:(zk TL).Nodup)(n:(zk TL').Nodup)(G:∀k,k∈zk TL↔k∈zk TL'):ts.length=c.length/\∀(i:Nat) (x x':Tsk),ts[i]?=J x->c[i]?=J x'->x.kd=x'.kd/\x.s=x'.s:=by
 have v:(ts.map Tsk.key).Perm (c.map Tsk.key):=(zbu h E).trans (((List.perm_ext_iff_of_nodup hn n).2 G).trans (zbu u g).symm);have o:((ts.map Tsk.key).map Zk).Perm ((c.map Tsk.key).map Zk):=v.map _;have d:∀{l:List Tsk},l.Pairwise (fun a b=>¬qE b a<0)->((l.map Tsk.key).map Zk).Pairwise (fun a b=>¬qE b a<0):=fun F=>by
  rw[List.map_map,List.pairwise_map];exact F.imp (fun{a b} f=>by show¬qE (Zk b.key) (Zk a.key)<0;rw[znz];exact f)
 have e:=Jl o (d h.sorted) (d u.sorted) (fun a B b D e=>by
  obtain⟨k,j,rfl⟩:=List.mem_map.1 B;obtain⟨I,m,rfl⟩:=List.mem_map.1 D;obtain⟨x,-,rfl⟩:=List.mem_map.1 j;obtain⟨y,-,rfl⟩:=List.mem_map.1 m;have w:(Zk x.key).key=x.key:=by unfold Tsk.key;rw[show(Zk ⟨x.kd,x.s⟩).kd=x.kd from(kN x).1,show(Zk ⟨x.kd,x.s⟩).s=x.s from(kN x).2]
  have A:(Zk y.key).key=y.key:=by unfold Tsk.key;rw[show(Zk ⟨y.kd,y.s⟩).kd=y.kd from(kN y).1,show(Zk ⟨y.kd,y.s⟩).s=y.s from(kN y).2]
  rw[w,A]at e;rw[e])
 refine⟨by simpa using v.length_eq,fun i x x' H q=>?_⟩;have r:=congrArg (fun l:List Tsk=>l[i]?) e;simp only[List.getElem?_map,H,q,Option.map_some]at r;have t:Zk x.key=Zk x'.key:=Option.some.inj r;exact⟨by rw[<-(kN x).1,<-(kN x').1,t],by rw[<-(kN x).2,<-(kN x').2,t]⟩
structure ya(c:Cf)(m m':MS):Prop where
 now:m.now=m'.now
 seg:qk (m.Gl,m.L) (m'.Gl,m'.L)
 job:∀k,k∈zk m.TL↔k∈zk m'.TL
theorem ya.symm(h:ya c m m'):ya c m' m:=⟨h.now.symm,h.seg.symm,fun k=>(h.job k).symm⟩
theorem ya.trans(h:ya c m m')(a:ya c m' m2):ya c m m2:=⟨h.now.trans a.now,h.seg.trans a.seg,fun k=>(h.job k).trans (a.job k)⟩
theorem ya.used(h:ya c m m'):zV m.L=zV m'.L:=vK (h.seg.perm.1.map _)
theorem ya.count(h:ya c m m')(k:Int):xc m.L k=xc m'.L k:=vK (h.seg.perm.1.map _)
theorem ya.gl(h:ya c m m'):m.Gl.length=m'.Gl.length:=h.seg.perm.2.length_eq
theorem ya.query(h:ya c m m')(t sr wn:Int):qY c m.now m.Gl m.L t sr wn=qY c m'.now m'.Gl m'.L t sr wn:=by
 rw[h.now];exact h.seg.query t sr wn
theorem qV.alike(h:qV c ep m r)(f:qV c ep' m' r)(D:∀x∈yJ m.L m.Gl,okN x)(E:∀x∈yJ m'.L m'.Gl,okN x):ya c m m':=by
 have w:∀{ep:Int} {m:MS},qV c ep m r->∀s,s∈zn m.L↔s∈xd r.c r.nu/\¬s∈r.gone:=fun{ep m} h s=>by
  constructor
  ·intro p;exact⟨(h.segs s).2 (.inl p),fun e=>h.sok.ok.seg.disj _ (zW p) (h.inGl.1 e)⟩
  ·rintro⟨i,g⟩;exact((h.segs s).1 i).resolve_right (fun e=>g (h.inGl.2 e))
 have G:∀{ep:Int} {m:MS},qV c ep m r->(∀x∈yJ m.L m.Gl,okN x)->∀s,s∈zn m.L->stL m.L s=if s.t= -1 then⟨1,qB r.c s r.nu⟩else if s∈r.pub then⟨3,qB r.c s r.nu⟩else⟨2,qA⟩:=fun{ep m} h D s p=>by
  have d:=zW p;have B:=h.sok.ok.mem_inR p;by_cases F:s.t= -1
  ·have i:=(h.sok.ok.seg.raw _ d F).1;have g:=h.raw d (by omega);rw[if_pos F];dsimp only at i g;generalize Go.Proofs.YtndhpgciopcncaaGreatDoor.stL m.L s=v at i g;obtain⟨a,b⟩:=v;dsimp only at i g;rw[i,g]
  ·have i:=h.sok.ok.seg.tier _ d (by have:=B.2.1;show 0<=s.t;omega);have u:s∈r.pub↔(Go.Proofs.YtndhpgciopcncaaGreatDoor.stL m.L s).st=3:=by
    rw[h.inPub];constructor
    ·rintro(⟨v,hv,e⟩|⟨-,e⟩)
     ·rw[jV h.sok.ok.seg.nl d hv];exact e
     ·exact absurd e (h.sok.ok.seg.disj _ d)
    ·intro e;exact .inl ⟨_,d,e⟩
   have n:=D _ (List.mem_append_left _ d);have g:=h.raw d;unfold okN at n;rw[if_neg F];dsimp only at i g n;generalize Go.Proofs.YtndhpgciopcncaaGreatDoor.stL m.L s=v at i g n u;obtain⟨a,b⟩:=v;dsimp only at i g n u;by_cases e:a=3
   ·rw[if_pos (u.2 e),g (by omega),e]
   ·rw[if_neg (fun H=>e (u.1 H)),n (.inl (by omega)),show a=2 by omega]
 have l:qk (m.Gl,m.L) (m'.Gl,m'.L):=by
  refine⟨h.sok.ok.seg.nl,f.sok.ok.seg.nl,h.sok.ok.seg.ng,f.sok.ok.seg.ng,fun k=>?_,fun k=>h.inGl.symm.trans f.inGl⟩;show ko m.L k=ko m'.L k;by_cases o:k∈zn m.L
  ·have j:=(w f k).2 ((w h k).1 o);obtain⟨v,hv,-⟩:=Qv o;obtain⟨K,q,-⟩:=Qv j;have y:=G h D k o;have A:=G f E k j;unfold Go.Proofs.YtndhpgciopcncaaGreatDoor.stL at y A;rw[hv]at y;rw[q]at A;have I:v=K:=y.trans A.symm;rw[hv,q,I]
  ·have j:k∉zn m'.L:=fun e=>o ((w h k).2 ((w f k).1 e));rw[ye.2 o,ye.2 j]
 have hn:m.now=m'.now:=h.tie.now.symm.trans f.tie.now;exact⟨hn,l,fun k=>(vx.of h.ok h.fits h.sok.ok h.tie.inv h.comp).same (vx.of f.ok f.fits f.sok.ok f.tie.inv f.comp) hn l k⟩
theorem ya.again(h:qV c ep m r)(hn:m2.now=m.now)(a:qk (m2.Gl,m2.L) (m.Gl,m.L))(b:xB c {m2 with TL:=[]} m2.TL):ya c m2 m:=
 ⟨hn,a,fun k=>(vx.new b).same (vx.of h.ok h.fits h.sok.ok h.tie.inv h.comp) hn a k⟩
theorem VJ(e:Nat)(txt:ByteArray)(keep:Int):Xp (jS e txt) keep=jS e txt:=by
 have h:∀(nm d:ByteArray),leftOf keep ⟨nm,d,d.size⟩=⟨nm,d,d.size⟩:=fun nm d=>by
  by_cases b:keep<((d.size:Int)-d.size)
  ·rw[VY (f:=⟨nm,d,d.size⟩) (Y _) (by omega) b];rw[zhO]
  ·rw[VX (f:=⟨nm,d,d.size⟩) (Y _) b]
 unfold Xp jS;simp only[List.map_cons,List.map_nil,h];have a:=h qh (xC e);rw[jG]at a;rw[a]
theorem ki.few(f:c.ok)(h:ki c 1 m ns txt):ns.length<=160001600:=by
 have s:c.wh (-1)=c.wi:=by unfold Cf.wh zQ;simp
 have o:=f.wh (t:= -1) (by omega) (by have:=f.n1;omega);rw[s]at o;have step:∀{m:MS} {ns:List Nm} {txt:ByteArray},ki c 1 m ns txt->ns.length<=160001601->ns.length<=160001600:=fun{m ns txt} j u=>by
  have g:=j.raw400 f (N:=160001601) (by decide) u;have l:=j.rinv f (N:=160001601) (by decide) u;have A:=zcO (P:=fun _=>True) (fun x=>4*(x.tm/c.wi)+x.sr) (ns:=ns) (fun x a _=>by
   have b:=l.tm x a;have D:=Int.ediv_nonneg b.1 (show 0<=c.wi by omega);show 0<=4*(x.tm/c.wi)+x.sr;omega) (fun w=>by
   refine Int.le_trans (zeb (B:=fun x=>zG c (-1) x=⟨-1,w%4,w/4⟩) (fun x a h=>?_)) (g _);have b:=l.tm x a;have E:4*(x.tm/c.wi)+x.sr=w:=h.2;unfold zG;rw[s,show x.sr=w%4 by omega,show x.tm/c.wi=w/4 by omega]) 400004
  have e:yj (fun x=>True/\4*(x.tm/c.wi)+x.sr<((400004:Nat):Int)) ns=ns.length:=Jy (fun x a=>⟨trivial,by
   have b:=l.tm x a;have F:x.tm/c.wi<=x.tm:=Int.ediv_le_self _ b.1;have G:=(j.sok f).ok.now;show 4*(x.tm/c.wi)+x.sr<400004;omega⟩)
  rw[e]at A;omega
 induction h with
 |start m ns txt v K H y b=>obtain⟨rfl,rfl,rfl⟩:=b rfl;simp
 |laid m ns txt m' ns' xs h d a k i q n p r=>
  have:=d.nu;exact step (.laid m ns txt m' ns' xs h d a k i q n p) (by omega)
 |quiet m ns txt m' ns' h d hn k i r=>
  have:=d.nu;exact step (.quiet m ns txt m' ns' h d hn k i) (by omega)
 |anew m ns txt ys h I r=>exact r
theorem zF.jrn(h:zF w i c ep m):∃fs txt ns,Yt w i.d (jS ep.toNat txt) fs/\ki c ep m ns txt/\txt.size<=300000000000/\ep<=1000000000/\∀k,foot i.d fs k->zt w i k:=by
 obtain⟨q,txt,ns,a⟩:=h;obtain⟨fs,f⟩:=a.at_.jrn;have b:=f.disk;rw[a.dsk]at b;have j:=a.tx;have l:=a.st;refine⟨fs,txt,ns,b,a.hist,by omega,a.e1.2,fun k g=>?_⟩;rcases g with e|e
 ·exact .inl (.inr (.inr (.inr (.inr e))))
 ·exact .inr (f.fsB.trans e)
theorem zlS(c:List Rw):JC (xb c)=(xb c).size:=by
 have j:=(zhK (xb c)).2;by_cases d:c=[]
 ·subst d;have:(xb []).size=0:=rfl;omega
 ·obtain⟨l,r,rfl⟩:∃l r,c=l++[r]:=⟨_,_,(List.dropLast_concat_getLast d).symm⟩;obtain⟨a,b⟩:∃a:List UInt8,(xb (l++[r])).data=(a++[10]).toArray:=⟨l.flatMap kw++Zd r.1 r.2,by simp[xb,kw]⟩;have m:(xb (l++[r])).size=a.length+1:=by show(xb (l++[r])).data.size=_;rw[b];simp
  have f:(((xb (l++[r])).data[a.length]!).toNat:Int)=10:=by rw[b];simp
  unfold JC Lib.lastIndexByte;rcases Lib.lastIdx_spec (xb (l++[r])) 10 (xb (l++[r])).size with⟨_,h⟩|⟨i,k,h,_,g⟩
  ·exact absurd f (h a.length (by omega))
  ·rw[h];by_cases e:i=a.length
   ·omega
   ·exact absurd f (g a.length (by omega) (by omega))
theorem JD(a:List Rw):(xb a).extract 0 (JC (xb a))=xb a:=by
 rw[zlS];apply ByteArray.ext;rw[ByteArray.data_extract];show(xb a).data.extract 0 (xb a).data.size=(xb a).data;first|exact Array.extract_size|exact Array.extract_size _|exact Array.extract_eq_self_of_le (Y _)|simp
theorem zdE(a:List Rw):(xn a).TL=[]/\(xn a).QL=[]/\(xn a).num=0:=by
 have h:∀(a:List Rw) (m:MS),(a.foldl (fun m r=>m.took r.1 r.2) m).TL=m.TL/\(a.foldl (fun m r=>m.took r.1 r.2) m).QL=m.QL/\(a.foldl (fun m r=>m.took r.1 r.2) m).num=m.num:=by
  intro a;induction a with
  |nil=>intro m;exact⟨rfl,rfl,rfl⟩
  |cons r a b=>intro m;exact b (m.took r.1 r.2)
 exact h a ms0
def noB:ByteArray:=⟨#[]⟩
theorem jg(t:ByteArray):t++noB=t:=by apply ByteArray.ext;simp[noB,ByteArray.data_append]
def shS(e:Nat)(txt lo:ByteArray)(dr:List FS)(l:Int)(b:Bool):DS:=⟨⟨qh,xC e,e⟩::⟨xY,txt++lo,txt.size⟩::dr,l,b⟩
def zdU(N:Nat)(dr:List FS):Prop:=dr=[]\/∃d n,dr=[⟨yc,d,n⟩]/\n<=d.size/\d.size<=N
inductive UpS (N e:Nat) (txt:ByteArray):DS->Prop
 |live (l:Int) (h: -1<=l/\l<=1000):UpS N e txt (shS e txt noB [] l false)
 |down (l:Int) (h: -1<=l/\l<=1000) (dr:List FS) (hd:zdU N dr):UpS N e txt (shS e txt noB dr l true)
theorem zqi(e:Nat)(txt:ByteArray):shS e txt noB [] (-1) false=jS e txt:=by unfold shS jS;rw[jg]
theorem UpS.jS(N e:Nat)(txt:ByteArray):UpS N e txt (jS e txt):=by rw[<-zqi];exact .live _ (by omega)
theorem YP(g:e<=M)(j:txt.size+lo.size<=M)(k:3<=M)(o:N<=M)(c:zdU N dr)(i: -1<=l/\l<=1000):DOk (shS e txt lo dr l b) M:=by
 refine⟨i.1,by show l<=9223372036854775807;omega,?_,fun f a=>?_⟩
 ·rcases c with rfl|⟨d,n,rfl,-⟩
  ·show 2<=M;omega
  ·show 3<=M;omega
 ·unfold shS at a;rcases List.mem_cons.1 a with rfl|a
  ·rw[jG];exact⟨Y _,g⟩
  ·rcases List.mem_cons.1 a with rfl|a
   ·show txt.size<=(txt++lo).size/\(txt++lo).size<=M;rw[ByteArray.size_append];omega
   ·rcases c with rfl|⟨d,n,rfl,h,m⟩
    ·cases a
    ·rw[List.mem_singleton]at a;subst a;exact⟨h,by show d.size<=M;omega⟩
theorem UpS.dok(h:UpS N e txt S)(b:e<=M)(i:txt.size<=M)(c:3<=M)(d:N<=M):DOk S M:=by
 have g:noB.size=0:=rfl;cases h with
 |live l a=>exact YP (N:=N) b (by omega) c d (.inl rfl) a
 |down l a dr f=>exact YP b (by omega) c d f a
theorem KH(p:ByteArray)(k:Nat)(r:List FS):xL (⟨qh,p,k⟩::r) qh=J 0:=by unfold xL xo;rw[jQ];rfl
theorem Qg{f:List FS}(c: -1<=l)(b:l≠0):zj ⟨f,l,false⟩=false/\zm ⟨f,l,false⟩=⟨f,if 0<l then l-1 else l,false⟩:=by
 have a:zj ⟨f,l,false⟩=false:=by unfold zj;simpa using b
 exact⟨a,by unfold zm;rw[a];rfl⟩
theorem Qh(f:List FS)(h:l=0\/b=true):zj ⟨f,l,b⟩=true/\zm ⟨f,l,b⟩=⟨f,l,true⟩:=by
 have a:zj ⟨f,l,b⟩=true:=by unfold zj;rcases h with rfl|rfl<;>simp
 exact⟨a,by unfold zm;rw[a];rfl⟩
theorem zmV(h:UpS N e txt S)(rec:ByteArray):
  (yR S rec=true->UpS N e (txt++(rec++nl)) (Qa S rec)/\(Qa S rec).down=false/\(S.left= -1->(Qa S rec).left= -1))/\(yR S rec=false->∃lo dr l,(lo=noB\/lo=rec++nl)/\zdU N dr/\(-1<=l/\l<=1000)/\Qa S rec=shS e txt lo dr l true/\¬(S.left= -1/\S.down=false)):=by
 cases h with
 |down l n dr v=>
  obtain⟨a1,a2⟩:=Qh (⟨qh,xC e,e⟩::⟨xY,txt++noB,txt.size⟩::dr) (l:=l) (b:=true) (.inr rfl);have a:zj (shS e txt noB dr l true)=true:=a1;refine⟨fun c=>?_,fun _=>⟨noB,dr,l,.inl rfl,v,n,?_,fun d=>by cases d.2⟩⟩
  ·unfold yR at c;rw[a]at c;cases c
  ·unfold Qa;rw[if_pos a,xS a];exact a2
 |live l n=>
  by_cases s:l=0
  ·obtain⟨a1,a2⟩:=Qh (⟨qh,xC e,e⟩::⟨xY,txt++noB,txt.size⟩::[]) (l:=l) (b:=false) (.inl s);have a:zj (shS e txt noB [] l false)=true:=a1;refine⟨fun c=>?_,fun _=>⟨noB,[],l,.inl rfl,.inl rfl,n,?_,fun d=>by have:=d.1;have p:l= -1:=this;omega⟩⟩
   ·unfold yR at c;rw[a]at c;cases c
   ·unfold Qa;rw[if_pos a,xS a];exact a2
  ·obtain⟨a1,a2⟩:=Qg (f:=⟨qh,xC e,e⟩::⟨xY,txt++noB,txt.size⟩::[]) n.1 s;have a:zj (shS e txt noB [] l false)=false:=a1;have t:zm (shS e txt noB [] l false)=shS e txt noB [] (if 0<l then l-1 else l) false:=a2
   have r:zD (shS e txt noB [] l false) xY (rec++nl)=⟨[⟨qh,xC e,e⟩,⟨xY,txt++(rec++nl),txt.size⟩],if 0<l then l-1 else l,false⟩:=by
    rw[qP (i:=1) (f:=⟨xY,txt++noB,txt.size⟩) a (kJ e _ txt.size []) rfl,t,jg];rfl
   by_cases u:l=1
   ·subst u;obtain⟨g,o⟩:=Qh ([⟨qh,xC e,e⟩,⟨xY,txt++(rec++nl),txt.size⟩]) (l:=0) (b:=false) (.inl rfl);have j:zD (shS e txt noB [] 1 false) xY (rec++nl)=⟨[⟨qh,xC e,e⟩,⟨xY,txt++(rec++nl),txt.size⟩],0,false⟩:=r;refine⟨fun c=>?_,fun _=>⟨rec++nl,[],0,.inr rfl,.inl rfl,by omega,?_,fun d=>by have:=d.1;have p:(1:Int)= -1:=this;omega⟩⟩
    ·unfold yR at c;rw[j,g,a]at c;cases c
    ·unfold Qa;rw[a,j];simp only[Bool.false_eq_true,if_false];rw[yi g,o];rfl
   ·have m: -1<=(if 0<l then l-1 else l)/\(if 0<l then l-1 else l)<=1000/\(if 0<l then l-1 else l)≠0:=by split<;>omega
    obtain⟨g,o⟩:=Qg (f:=[⟨qh,xC e,e⟩,⟨xY,txt++(rec++nl),txt.size⟩]) m.1 m.2.2;have c:yR (shS e txt noB [] l false) rec=true:=(by unfold yR;rw[r,g,a];rfl);have q:Qa (shS e txt noB [] l false) rec=shS e (txt++(rec++nl)) noB [] (if 0<(if 0<l then l-1 else l)then(if 0<l then l-1 else l)-1 else(if 0<l then l-1 else l)) false:=by
     unfold Qa;rw[a,r];simp only[Bool.false_eq_true,if_false];rw[xX (i:=1) (f:=⟨xY,txt++(rec++nl),txt.size⟩) g (kJ e (txt++(rec++nl)) txt.size []) rfl,o];unfold shS;rw[jg];rfl
    refine⟨fun _=>⟨?_,?_,fun d=>?_⟩,fun k=>by rw[c]at k;cases k⟩
    ·rw[q];exact .live _ (by split<;>split at* <;>omega)
    ·rw[q];rfl
    ·have p:l= -1:=d;rw[q,p];rfl
theorem zF.sok(b:c.ok)(h:zF w i c ep m):∃k,SOk c ep m k:=by
 obtain⟨q,txt,ns,a⟩:=h;exact⟨_,a.hist.sok b⟩
theorem zF.okN(h:zF w i c ep m):∀x∈yJ m.L m.Gl,okN x:=by
 obtain⟨q,txt,ns,a⟩:=h;exact a.hist.okN
theorem zqh{rec:ByteArray}(h:UpS N e txt S)(E:S.down=false)(B:(rec++nl).size<=N):
  zce S=false/\((UpS N e (rec++nl) (Xj S rec)/\(Xj S rec).down=false)\/(UpS N e txt (Xj S rec)/\(Xj S rec).down=true))/\(S.left= -1->(Xj S rec).left= -1/\(Xj S rec).down=false):=by
 cases h with
 |down l w dr F=>cases E
 |live l w=>
  have D:shS e txt noB [] l false=⟨[⟨qh,xC e,e⟩,⟨xY,txt,txt.size⟩],l,false⟩:=by unfold shS;rw[jg]
  rw[D];have x:xL [⟨qh,xC e,e⟩,⟨xY,txt,txt.size⟩] yc=z:=XC e txt txt.size;have p:zce ⟨[⟨qh,xC e,e⟩,⟨xY,txt,txt.size⟩],l,false⟩=false:=by unfold zce;rw[x];rfl
  have n:YD ⟨[⟨qh,xC e,e⟩,⟨xY,txt,txt.size⟩],l,false⟩=⟨[⟨qh,xC e,e⟩,⟨xY,txt,txt.size⟩],l,false⟩:=by unfold YD;rw[x];rfl
  refine⟨p,?_⟩;have up:∀(dr:List FS) (q:Int),zdU N dr-> -1<=q/\q<=1000->UpS N e txt ⟨⟨qh,xC e,e⟩::⟨xY,txt,txt.size⟩::dr,q,true⟩:=fun dr q d o=>by
   have:=UpS.down (N:=N) (e:=e) (txt:=txt) q o dr d;unfold shS at this;rw[jg]at this;exact this
  by_cases l0:l=0
  ·obtain⟨a1,a2⟩:=Qh [⟨qh,xC e,e⟩,⟨xY,txt,txt.size⟩] (l:=l) (b:=false) (.inl l0);have g:Xj ⟨[⟨qh,xC e,e⟩,⟨xY,txt,txt.size⟩],l,false⟩ rec=⟨[⟨qh,xC e,e⟩,⟨xY,txt,txt.size⟩],l,true⟩:=by
    unfold Xj Jg;rw[p,n,a1,xS a1,a2];rfl
   rw[g];exact⟨.inr ⟨up [] l (.inl rfl) w,rfl⟩,fun j=>by have m:l= -1:=j;omega⟩
  ·obtain⟨a1,a2⟩:=Qg (f:=[⟨qh,xC e,e⟩,⟨xY,txt,txt.size⟩]) w.1 l0;have d:Jg ⟨[⟨qh,xC e,e⟩,⟨xY,txt,txt.size⟩],l,false⟩ rec=⟨[⟨qh,xC e,e⟩,⟨xY,txt,txt.size⟩,⟨yc,rec++nl,0⟩],if 0<l then l-1 else l,false⟩:=by
    unfold Jg;rw[n,qD a1 x,a2];rfl
   generalize a:(if 0<l then l-1 else l)=l1 at d
   have y: -1<=l1/\l1<=1000:=(by rw[<-a];split<;>omega);by_cases r:l1=0
   ·obtain⟨k,t⟩:=Qh [⟨qh,xC e,e⟩,⟨xY,txt,txt.size⟩,⟨yc,rec++nl,0⟩] (l:=l1) (b:=false) (.inl r);have g:Xj ⟨[⟨qh,xC e,e⟩,⟨xY,txt,txt.size⟩],l,false⟩ rec=⟨[⟨qh,xC e,e⟩,⟨xY,txt,txt.size⟩,⟨yc,rec++nl,0⟩],l1,true⟩:=by
     unfold Xj zao;rw[p,n,d,a1,k,yi k,t];rfl
    rw[g];exact⟨.inr ⟨up [⟨yc,rec++nl,0⟩] l1 (.inr ⟨_,_,rfl,Nat.zero_le _,B⟩) y,rfl⟩,fun j=>by have m:l= -1:=j;rw[m]at a;simp at a;omega⟩
   ·obtain⟨k,t⟩:=Qg (f:=[⟨qh,xC e,e⟩,⟨xY,txt,txt.size⟩,⟨yc,rec++nl,0⟩]) y.1 r;have o:zao ⟨[⟨qh,xC e,e⟩,⟨xY,txt,txt.size⟩],l,false⟩ rec=⟨[⟨qh,xC e,e⟩,⟨xY,txt,txt.size⟩,⟨yc,rec++nl,(rec++nl).size⟩],if 0<l1 then l1-1 else l1,false⟩:=by
     unfold zao;rw[d,xX (i:=2) (f:=⟨yc,rec++nl,0⟩) k (ZA e txt _ _ _) rfl,t];rfl
    generalize c:(if 0<l1 then l1-1 else l1)=l2 at o
    have A: -1<=l2/\l2<=1000:=(by rw[<-c];split<;>omega);by_cases s:l2=0
    ·obtain⟨u,v⟩:=Qh [⟨qh,xC e,e⟩,⟨xY,txt,txt.size⟩,⟨yc,rec++nl,(rec++nl).size⟩] (l:=l2) (b:=false) (.inl s);have g:Xj ⟨[⟨qh,xC e,e⟩,⟨xY,txt,txt.size⟩],l,false⟩ rec=⟨[⟨qh,xC e,e⟩,⟨xY,txt,txt.size⟩,⟨yc,rec++nl,(rec++nl).size⟩],l2,true⟩:=by
      unfold Xj zgR;rw[p,n,d,o,a1,k,vy u,v];rfl
     rw[g];exact⟨.inr ⟨up [⟨yc,rec++nl,(rec++nl).size⟩] l2 (.inr ⟨_,_,rfl,Y _,B⟩) A,rfl⟩,fun j=>by have m:l= -1:=j;rw[m]at a;simp at a;rw[<-a]at c;simp at c;omega⟩
    ·obtain⟨u,v⟩:=Qg (f:=[⟨qh,xC e,e⟩,⟨xY,txt,txt.size⟩,⟨yc,rec++nl,(rec++nl).size⟩]) A.1 s;have g:Xj ⟨[⟨qh,xC e,e⟩,⟨xY,txt,txt.size⟩],l,false⟩ rec=shS e (rec++nl) noB [] (if 0<l2 then l2-1 else l2) false:=by
      unfold Xj zgR;rw[p,n,d,o,a1,k,kB (i:=2) (f:=⟨yc,rec++nl,(rec++nl).size⟩) u (ZA e txt _ _ _) rfl znV,v];unfold shS;rw[jg];simp[yX,zhS,zbh,jQ]
     rw[g];refine⟨.inl ⟨.live _ (by split<;>omega),rfl⟩,fun j=>?_⟩;have m:l= -1:=j;rw[m]at a;simp at a;rw[<-a]at c;simp at c;rw[<-c];exact⟨rfl,rfl⟩
def crS(e:Nat)(t:ByteArray)(dr:List FS):DS:=⟨⟨qh,xC e,e⟩::⟨xY,t,t.size⟩::dr,-1,false⟩
theorem znO(a b:ByteArray)(n:Nat):(a++b).extract 0 (a.size+n)=a++b.extract 0 n:=by
 apply ByteArray.ext;rw[ByteArray.data_extract,ByteArray.data_append,ByteArray.data_append,ByteArray.data_extract];have c:a.size=a.data.size:=rfl;rw[c,Array.extract_append];have d:a.data.extract 0 (a.data.size+n)=a.data:=by
  apply Array.ext
  ·simp
  ·intro i e f;simp
 rw[d];simp
theorem zbd(i:zdU N dr)(keep:Int):
  ∃n a,n<=lo.size/\zdU N a/\Xp (shS e txt lo dr l b) keep=crS e (txt++lo.extract 0 n) a:=by
 have f:leftOf keep ⟨qh,xC e,e⟩=⟨qh,xC e,e⟩:=by
  have h:=VJ e noB keep;unfold Xp jS at h;injection h with h;injection h with h
 obtain⟨n,hn,k⟩:∃n,n<=lo.size/\leftOf keep ⟨xY,txt++lo,txt.size⟩=⟨xY,txt++lo.extract 0 n,(txt++lo.extract 0 n).size⟩:=by
  have o:(txt++lo).size=txt.size+lo.size:=ByteArray.size_append;refine⟨if keep<((txt++lo).size:Int)-txt.size then(if keep<0 then 0 else keep.toNat)else(txt++lo).size-txt.size,?_,?_⟩
  ·split<;>(try split)<;>omega
  ·unfold leftOf;dsimp only;rw[znO]
 obtain⟨a,c,j⟩:∃a,zdU N a/\dr.map (leftOf keep)=a:=by
  rcases i with rfl|⟨d,n,rfl,m,g⟩
  ·exact⟨[],.inl rfl,rfl⟩
  ·refine⟨_,.inr ⟨_,_,rfl,Y _,?_⟩,rfl⟩;rw[YH];show min (n+_) d.size<=N;exact Z (Nat.min_le_right _ _) g
 refine⟨n,a,hn,c,?_⟩;unfold Xp shS crS;rw[List.map_cons,List.map_cons,f,k,j]
theorem znA(e:Nat)(t:ByteArray)(dr:List FS):Zb (crS e t dr)=crS (e+1) t dr/\YT (crS e t dr)=true/\zdY (crS e t dr)=e+1:=by
 obtain⟨a1,a2⟩:=qZ (S:=crS e t dr) rfl rfl;have a:zD (crS e t dr) qh Vq=⟨⟨qh,xC (e+1),e⟩::⟨xY,t,t.size⟩::dr,-1,false⟩:=by
  rw[qP (i:=0) (f:=⟨qh,xC e,e⟩) a1 (KH _ _ _) rfl,a2,<-zge];rfl
 obtain⟨b,g⟩:=qZ (S:=⟨⟨qh,xC (e+1),e⟩::⟨xY,t,t.size⟩::dr,-1,false⟩) rfl rfl;have c:xM ⟨⟨qh,xC (e+1),e⟩::⟨xY,t,t.size⟩::dr,-1,false⟩ qh=crS (e+1) t dr:=by
  rw[xX (i:=0) (f:=⟨qh,xC (e+1),e⟩) b (KH _ _ _) rfl,g];simp[crS,jG]
 have d:YT (crS e t dr)=true:=by unfold YT;rw[a,a1,b];rfl
 refine⟨by unfold Zb;rw[a1,a,c];rfl,d,?_⟩;unfold zdY;rw[d,a,c];unfold yh crS;rw[KH];simp[jG]
theorem zlN(e:Nat)(t:ByteArray)(dr:List FS):yh (crS e t dr) xY=t:=by unfold yh crS;rw[kJ];rfl
theorem zoJ(i:zdU N dr)(rec:ByteArray):Xj (crS e t dr) rec=jS e (rec++nl)/\QJ (crS e t dr) rec=true/\zce (crS e t dr)=false:=by
 rcases i with rfl|⟨d,n,rfl,-⟩
 ·exact zjo e t rec
 ·obtain⟨a1,a2⟩:=qZ (S:=crS e t [⟨yc,d,n⟩]) rfl rfl;have j:xL (crS e t [⟨yc,d,n⟩]).files yc=J 2:=ZA e t d t.size n;have g:zce (crS e t [⟨yc,d,n⟩])=false:=by unfold zce;rw[a1];simp
  have f:YD (crS e t [⟨yc,d,n⟩])=jS e t:=by
   unfold YD qG;rw[j,a1,a2];simp[zal,ZL,crS,jS,zbh,znW,jQ]
  have a:YD (jS e t)=jS e t:=by unfold YD;rw[show xL (jS e t).files yc=z from XC e t t.size];rfl
  obtain⟨r1,r2,r3⟩:=zjo e t rec;have b:Jg (crS e t [⟨yc,d,n⟩]) rec=Jg (jS e t) rec:=by unfold Jg;rw[f,a]
  have c:zao (crS e t [⟨yc,d,n⟩]) rec=zao (jS e t) rec:=by unfold zao;rw[b]
  have h:zgR (crS e t [⟨yc,d,n⟩]) rec=zgR (jS e t) rec:=by unfold zgR;rw[c]
  refine⟨?_,?_,g⟩
  ·rw[<-r1];unfold Xj;rw[g,r3,f,a,b,c,h]
  ·rw[<-r2];unfold QJ;rw[g,r3,f,a,b,c]
theorem znj(a:e<=M)(g:t.size<=M)(c:3<=M)(d:N<=M)(f:zdU N dr):DOk (crS e t dr) M:=by
 have h:=YP (lo:=noB) (l:= -1) (b:=false) a (txt:=t) (by have:noB.size=0:=rfl;omega) c d f (by omega);unfold shS at h;rw[jg]at h;exact h
structure VC(c:Cf)(m:MS)(rs:List Rw):Prop where
 now:(xn rs).now=m.now
 seg:qk ((xn rs).Gl,(xn rs).L) (m.Gl,m.L)
 rd:∀r∈rs,Yh c r
structure zpy(S:DS)(ep:Nat)(t:ByteArray):Prop where
 ok:YT S=true
 num:zdY S=ep
 txt:(yh (Zb S) xY).extract 0 (JC (yh (Zb S) xY))=t
 rnw:∀rec,Xj (Zb S) rec=jS ep (rec++nl)/\QJ (Zb S) rec=true/\zce (Zb S)=false
 dok:DOk S 400000000000
theorem zgf(c:Cf)(v:c.ok)(hf:c.fits)(hr:qd c.s c.le c.la c.wi c.ke c.qu c.n c.F c.W c.K=true)(a:Option Addr)(cap p:Nat)(S:DS)(fs:Value)(w:World){ep:Nat}{f:List Rw}(hs:SOk c 1 m k)(hR:VC c m f)(r:∀x∈yJ m.L m.Gl,okX x)(T:∀x∈yJ m.L m.Gl,okN x)(a6:(xb f).size<=300000000000)(a3:2<=ep/\ep<=1000000000)(t:zpy S ep (xb f))(hd:Yt w p S fs)(V:∀w',zi (foot p fs) w w'->TS w' a c.n c.F c.W c.K)(B:Qo w)(U:∀k,foot p fs k->k≠vR)(q:Qp w)(u:∀k,foot p fs k->k≠zaR):
  Calls prog 29 #[(cZz c a cap),(O p)] w fun e w'=>∃(i:Ids) (m2:MS) (ys:List SX) (o:Value),i.d=p/\e=.returned (.tuple #[(O i.x),I 0])/\zF w' i c ep m2/\m2.now=m.now/\qk (m2.Gl,m2.L) (m.Gl,m.L)/\m2.QL=[]/\xB c {m2 with TL:=[]} m2.TL/\ys.Perm (yJ m2.L m2.Gl)/\Yt w' p (jS ep (xm m2.now ys++nl)) o/\zi (foot p fs) w w'/\∀k,zt w' i k->foot p fs k\/w.1.size<=k:=by
 obtain⟨E,G,e4⟩:=hR;obtain⟨X,t2,t3⟩:=zdE f;have b:SOk c ep (xn f) k:=hs.back E G X t2 t3;obtain⟨p1,p2⟩:=G.perm;have j:∀x,x∈yJ (xn f).L (xn f).Gl->x∈yJ m.L m.Gl:=fun x l=>by
  rcases List.mem_append.1 l with l|l
  ·exact List.mem_append_left _ (p1.mem_iff.1 l)
  ·obtain⟨g,hg,rfl⟩:=List.mem_map.1 l;exact List.mem_append_right _ (List.mem_map.2 ⟨g,p2.mem_iff.1 hg,rfl⟩)
 have M:XO c ((yh (Zb S) xY).extract 0 (JC (yh (Zb S) xY))) (xn f) (fun i W=>Qp W/\∀k,zt W i k->k≠zaR):=by
  rw[t.txt];exact zjk c v f e4 (by omega)
 have a4:=b.ok.seg.len400 v;have a5:=b.gl v;refine(zmY c v hr a cap p S fs w hd 400000000000 (by omega) t.dok t.ok V B U (xn f) (fun i W=>Qp W/\∀k,zt W i k->k≠zaR) (fun i W hk Q=>⟨q.kept hk (fun h=>u _ h rfl),fun k R h=>(Q k R).elim (fun h'=>u k h' h) (fun h'=>by have:=q.lt;omega)⟩) M (by rw[E];exact hs.ok.now) (fun x l=>r x (j x l)) (by omega) (by omega) b.ok.seg.inr (by rw[X];simp) (fun ys D=>(t.rnw _).2.1)).mono ?_;rintro e w' ⟨i,ys,TL',hi,he,D,H,hP,hK,hF⟩;obtain⟨r1,r2,r3⟩:=t.rnw (xm (xn f).now ys);rw[t.num]at H;have A:Vu (Zb S) (xm (xn f).now ys) 0=(xm (xn f).now ys).size+1:=by unfold Vu;rw[r3];rfl
 have a1:=b.ok.now;have a0:=kE (now:=(xn f).now) (xs:=ys) (by unfold xz;omega) (fun x l=>r x (j x (D.mem_iff.1 l)));have h3:ys.length=(xn f).L.length+(xn f).Gl.length:=by rw[D.length_eq];unfold yJ;rw[List.length_append,List.length_map]
 have a2:(xm (xn f).now ys).size<=1000000000:=by rw[yZ];omega
 have N:SOk c ep {xn f with TL:=TL'} k:=⟨(MOk.post v hf b.ok hP).1,b.gin,b.lin,b.held⟩;have P:Xj (Zb S) (xm (xn f).now ys)=jS ((ep:Int)).toNat (xm (xn f).now ys++nl):=by rw[r1];rfl
 obtain⟨o,hj⟩:=H.jrn;have y:=hj.disk;rw[hi]at y;refine⟨i,{xn f with TL:=TL'},ys,o,hi,he,⟨_,xm (xn f).now ys++nl,List.replicate k ⟨0,0,0⟩,H,rfl,P,by omega,?_,?_,.start _ _ _ hf (by rw[List.length_replicate];exact N) (fun x l=>r x (j x l)) (fun x l=>T x (j x l)) (fun h=>by omega)⟩,E,G,t2,?_,D,?_,hK,hF⟩
 ·show 0<=Vu (Zb S) (xm (xn f).now ys) 0/\Vu (Zb S) (xm (xn f).now ys) 0<=100000000000;rw[A];omega
 ·show((xm (xn f).now ys++nl).size:Int)<=2*Vu (Zb S) (xm (xn f).now ys) 0+4096;rw[A,kQ];omega
 ·have h9:({xn f with TL:=[]}:MS)=xn f:=by rw[<-X]
  show xB c {xn f with TL:=[]} TL';rw[h9];exact hP
 ·have e9:jS ep (xm (xn f).now ys++nl)=Xj (Zb S) (xm (xn f).now ys):=r1.symm;show Yt w' p (jS ep (xm (xn f).now ys++nl)) o;rw[e9];exact y
end Go.Proofs.YtndhpgciopcncaaGreatDoor
