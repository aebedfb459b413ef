import Derived.Test.YtndhpgciopcncaaGreatDoorXLay3
open Option renaming some → E
open Nat renaming le_refl → S
open Nat renaming lt_of_lt_of_le → G
open Go.RowKit renaming Below → R
open Go.RowKit.Below renaming refl → z
set_option linter.unusedVariables false
set_option maxRecDepth 100000
set_option maxHeartbeats 8000000
open Go.Proofs.Tryz
open Go renaming undef → u_
namespace Go.Proofs.YtndhpgciopcncaaGreatDoor
section
open Go.RowKit Go.Maps Go.Shelf Go.Sort
open Go.ChangeMaps (setBlock)
variable {w:World}
theorem Tryz.infoSeg:(prog.info? 148).map (fun i=>(i.zero,i.size,i.bytes))=E (E (.agg #[I 0,I 0,I 0,I 0,I 0,I 0,i_ 0,i_ 0]),8,56):=by kernel_rfl
theorem zoj{ops:Array Oper}{rest:List Oper}{o:Oper}{a:Act}{Q:Exit->Act->World->Prop}(i:o.guard=none)(s x:Operand)(n:o.op=.call {callee:=.builtin .append,args:=#[s,x],argTypes:=#[105,105]})(base:Nat)(v:Value)(l:List SX)(f:SX)(p:a.eval s=v)(c:Zd w base v l)(d:Nat)(q:a.eval x=.slice (E (U d 0)) 1 1)(e:w.1[d]?=E (.cells (xZz f) 148 (0,0)))(r:l.length<=1000000000)(b:base<=w.1.size)(h:∀g cap w',Zd w' base (.slice (E (U g 0)) (l.length+1) cap) (l++[f])->w.grownBy w' v.ownBlock->g<w'.1.size->wpList prog ops Q rest (a.put o.dst (.slice (E (U g 0)) (l.length+1) cap)) w'):wpList prog ops Q (o::rest) a w:=
 zO i s x 105 n base 148 _ 8 56 underlying105 Tryz.infoSeg rfl (by decide) v l.length (l.flatMap xD) p c (U d 0) 1 1 (xD f) q rfl
  (World.news_of_block (cs:=(xD f).toArray) e) (Z6 f) (by decide) (by simp only[maxLen];omega) (by omega) b
  fun g cap w' j _ k _ m=>h g cap w' (zkk j) k m
def Vw(p:Sg×Unit):SX:=(p.1,⟨4,qL⟩)
def XU(L:LV)(Gl:List (Sg×Unit)):List SX:=L++Gl.map Vw
theorem ZY{base:Nat}{v:Value}{xs:List SX}(h:Zd w base v xs){k:Nat}{o:Obj}(a:w.1[k]?=E o)(d:o.isCells=false):v.ownBlock≠E k:=fun e=>by
 obtain⟨b,c⟩:=zG h e;rw[c]at a;cases a;cases d
theorem zni{s:Nat}{c:Cf}{tv:Value}{lb gb:Nat}{Gl:List (Sg×Unit)}{L:LV}(h:xK w s c tv lb gb Gl L)(aF:L.length<=1000000)(aK:Gl.length<=100000000):
  Calls prog 134 #[(O s)] w fun e w'=>∃xs v,xs.Perm (XU L Gl)/\e=.returned v/\SRd w' v xs/\B_ w w':=by
 obtain⟨es,clock,a5,aj⟩:=h.gone;obtain⟨-,-,-,-,-,-,-,c7,c8⟩:=h.cells;have ap:=h.lt;have a3:B_ w (w.alloc (.cells #[.map (E lb)] 152)):=(z _ _).alloc (S _) _;have ar:=zE w (.cells #[.map (E lb)] 152);have HV:=ze (JY lb w);have HC:=ze (zbf _ _ zde (w.alloc (.cells #[.map (E lb)] 152)) aF (zlv w.1.size lb L _ (by rw[ar];omega) (by rw[xd (zo _ _)];rfl) (qF.1 (h.later a3).live)));have a6:=zd a5;have ad:=ze a5;have l:=ze aj;have aa:=ze a3;clear h a5 aj a3;go_in;go_wp2_with(first
  |(go_at_call 88;refine HV.mono ?_;rintro e w1 ⟨rfl,rfl⟩)
  |(go_at_call 208;refine HC.mono ?_;rintro e w2 ⟨n,v0,al,rfl,an,ag⟩;have b:B_ w w2:=aa.trans (ag.mono aa.size);have d8:Cz w2 s 8 (.map (E gb)):=(b.cell (p:=(U s 8)) ap).trans c8;have N:=run_range_map (P:=prog) w2 153 _ _ gb es clock underlying153 ((b.block _ a6).trans ad);have aI:s<w2.1.size:=G ap b.size;have ae:=ze al;have ax:=ze an;have a9:=ze b;clear al an b ag))
 go_loopw [3] (fun v wr=>∃(seen:Array Nat) (c0:Nat) (ps:List MapEntry),wr.1[w2.1.size]?=E (.mapIter (E gb) clock seen c0)/\clock<=c0/\wr.1[gb]?=E (.map es clock)/\zee es seen ps/\Zd wr w.1.size v (n++(ps.map (kH jE Gl)).map Vw)/\B_ w wr)
  (fun _ wr=>Zc es w2.1.size wr)
 case atStart=>
  have b:=ud a9;have ah:B_ w2 (w2.alloc (.mapIter (E gb) clock #[] clock)):=(z _ _).alloc (S _) _;exact⟨#[],clock,[],zo _ _,S _,(ah.block _ (G a6 b.size)).trans ((b.block _ a6).trans (ud ad)),⟨by simp,by simp,by simp⟩,by
   have:=zY (yw (b':=w.1.size) (ud ax) (by rw[ar];omega)) ah;simpa[Zd]using this,b.alloc b.size _⟩
 case round=>
  obtain⟨seen,c0,ps,hr,aD,K,hC,hv,T⟩:=hrel;have aL:=zd hr;have aM:=a9.size;clear N d8 HC HV;rcases run_next_at (P:=prog) wr 0 w2.1.size gb clock c0 seen es clock hr K (ud l).born aD with⟨hz,f⟩|⟨e,J,w1,Q,f⟩
  ·have i:(n++(ps.map (kH jE Gl)).map Vw).Perm (XU L Gl):=ae.append ((jR Xv l (hC.all l.once hz)).map Vw);generalize n++(ps.map (kH jE Gl)).map Vw=xs at*;have Z:xs.length<=200000000:=(by rw[i.length_eq];unfold XU;rw[List.length_append,List.length_map];omega);obtain⟨a,cap,rfl⟩:=hv.slice;have af:=ze i;have HB:=ze T;clear hz hC K i T;by_cases h0:xs.length=0
   ·have ak:xs=[]:=List.length_eq_zero_iff.1 h0;subst ak;have ay:=ze (zow a cap wr);clear hv;go_wp2_with(go_at_call 209;refine ay.mono ?_;rintro e W ⟨rfl,rfl⟩);go_ret;exact⟨[],_,ud af,rfl,⟨_,_,rfl,fun h=>absurd h (by simp)⟩,ud HB⟩
   ·obtain⟨g,rfl,-,Y⟩:=hv.form (by omega);have aJ:=(World.ownsRow.lt hv g rfl).1;have HS:=ze (zmm g cap xs wr (zln hv) Y (by omega));clear hv;go_wp2_with(go_at_call 209;refine HS.mono ?_;rintro e W ⟨rfl,ys,C,hH,A⟩;have aw:=ze C;have HH:=ze hH;have HK:=ze A;clear C hH A);go_ret;have C:=ud aw;have A:=ud HK;have T:=ud HB;refine⟨ys,.slice (E (U g 0)) xs.length cap,C.trans (ud af),rfl,⟨E (U g 0),cap,by rw[C.length_eq],fun _=>⟨g,rfl,G Y A.size,fun j x hx=>zll (ud HH) hx⟩⟩,T.trans (A.below T.size (fun j e=>by omega))⟩
  ·have ac:=ze J;obtain⟨a4,-⟩:=xH.1 J;have ao:w1.1[w2.1.size]?=E (.mapIter (E gb) clock seen c0):=(by rcases Q with rfl|rfl<;>exact hr);have am:w1.1[gb]?=E (.map es clock):=(by rcases Q with rfl|rfl<;>exact K);have aG:gb≠w2.1.size:=(by omega);obtain⟨X,hX⟩:∃X,setBlock w1 w2.1.size (.mapIter (E gb) clock (seen.push e.born) clock)=X:=⟨_,rfl⟩;have F:X.1[w2.1.size]?=E (.mapIter (E gb) clock (seen.push e.born) clock):=(by rw[<-hX];exact xL (zd ao) _);have D:X.1[gb]?=E (.map es clock):=(by rw[<-hX,xr aG];exact am);have a7:zj (fun k=>k=w2.1.size) wr X:=by
    rw[<-hX];rcases Q with rfl|rfl
    ·exact xY _
    ·exact(zj.refl (fun k=>k=w2.1.size) wr).drew.trans (xY _) (fun _ _ h=>h)
   have H:B_ w X:=T.trans (a7.below T.size (fun j e=>by omega));have aq:=zi hv a7 (fun k A e=>ZY hv hr rfl (by rw[<-e];exact A));rw[hX]at f;have ai:=run_entry_at (P:=prog) X w2.1.size gb clock seen es clock e F D a4 l.once;obtain⟨aE,A,d⟩:=Xc Xv l a4;obtain⟨⟨k,u⟩,a8⟩:∃y,kH jE Gl e=y:=⟨_,rfl⟩;have az:=ze a8;rw[a8]at A d;have B:e.key=vl k:=A;have d:e.val=.agg #[]:=d;unfold vl at B;rw[B,d]at f ai;have aC:=zd F;obtain⟨y0,y1,o,yz⟩:=box2 X (.cells #[I k.t,I k.se,I k.we] 146) (.cells #[I k.t,I k.se,I k.we,I 4,I 0,I 0,i_ 0,i_ 0] 148);have Z:(n++(ps.map (kH jE Gl)).map Vw).length<=1000000000:=by
    have h1:=ae.length_eq;have h2:=hC.lt J;have h3:=l.count;rw[List.length_append,List.length_map,List.length_map];omega
   have a1:=ze (zY aq o);have aA:=ze y1;have m:=ze ((o.block _ aC).trans F);have a2:=ze ((o.block _ (zd D)).trans D);have ab:=ze (H.trans (o.mono H.size));have HC:=ze hC;have HR:=ze hr;have av:=ze H.size;clear hv T K hC hr F D a7 H aq ao am hX Q J a4 aE A B d a8 y0 y1 o;generalize au:n++(ps.map (kH jE Gl)).map Vw=zs at*;have aB:=ze au;clear au;go_wp2_with(first
    |(at_builtin;refine zoj rfl _ _ rfl w.1.size _ zs (Vw (k,u)) rfl a1 (X.1.size+1) rfl aA Z (by have:=ud av;rw[yz];omega) ?_;intro g cap W a0 r aH;have HO:=ze a0;have HG:=ze r;clear a0 r)
    |fail)
   go_roundw;case rel=>
    have Y:=ud HG;have hv:=ud a1;refine⟨seen.push e.born,clock,ps++[e],(Y.block _ (zd m) (fun e=>ZY hv m rfl e.symm)).trans m,S _,(Y.block _ (zd a2) (fun e=>ZY hv a2 rfl e.symm)).trans a2,HC.step ac,?_,ab.grown Y ab.size (fun q hq=>(World.ownsRow.lt hv q hq).1)⟩;have e:n++((ps++[e]).map (kH jE Gl)).map Vw=zs++[Vw (k,u)]:=by
     rw[List.map_append,List.map_append,<-List.append_assoc,ud aB,List.map_singleton,List.map_singleton,ud az]
    rw[e];have h:=ud HO;unfold Zd at h ⊢;rw[List.length_append,List.length_singleton]at h ⊢;exact h
   case measure=>
    have Y:=ud HG;rw[xw ((Y.block _ (zd (ud m)) (fun e=>ZY (ud a1) (ud m) rfl e.symm)).trans (ud m)),xw (ud HR)];exact qT ac
end
section
open Go.RowKit Go.Maps Go.Shelf
open Go.ChangeMaps (setBlock)
variable {c:Cf} {se tm val we:Int} {L:LV} {g i n:Nat} {W w:World}
attribute [local go_sem] Oper.semAt_some
theorem JI{k j:Nat}(h:¬k=g)(v:Value):(w.setCell (U g i) v).cell? (U k j)=w.cell? (U k j):=by
 simp only[World.cell?,Below.heap_setCell _ _ _ _ (show k≠((U g _):Addr).block from h)]
theorem zlY{F:Fence}{ops:Array Oper}{rest:List Oper}{o:Oper}{a:Act}{Q:Exit->Act->World->Prop}(r:o.guard=none)(s x:Operand)(D:o.op=.call {callee:=.builtin .append,args:=#[s,x],argTypes:=#[105,105]})(base:Nat)(v:Value)(l:List SX)(f:SX)(H:a.eval s=v)(j:Zd W base v l)(m:Nat)(J:a.eval x=.slice (E (U m 0)) 1 1)(p:W.1[m]?=E (.cells (xD f).toArray 148 (0,0)))(L:l.length<=1000000)(c:base<=W.1.size)(h:∀g cap w',Zd w' base (.slice (E (U g 0)) (l.length+1) cap) (l++[f])->W.grownBy w' v.ownBlock->(v.ownBlock=E g\/g=W.1.size)->g<w'.1.size->wpListIn F n prog ops Q rest (a.put o.dst (.slice (E (U g 0)) (l.length+1) cap)) w'):wpListIn F n prog ops Q (o::rest) a W:=by
 obtain⟨i0,C,t,u,w⟩:=zei;refine wpListIn_append_own_at W r s x 105 D base 148 i0 (.agg #[I 0,I 0,I 0,I 0,I 0,I 0,i_ 0,i_ 0]) 8 56 underlying105 C t u w rfl (by decide) v l.length _ H j (U m 0) 1 1 (xD f) J rfl (World.news_of_block (cs:=(xD f).toArray) p) (Z6 f) (by simp only[maxLen];omega) (by omega) c ?_;intro N K b q y k;obtain⟨B,d,rfl,A,i⟩:=b.form (by omega);exact h B d K (zkk b) q (k.elim (fun e=> .inl e.symm) (fun e=> .inr (by simpa[Value.ownBlock]using e))) i
theorem zeJ{c:Cf}(f:c.ok){se tm:Int}(a:0<=se/\se<4)(b:0<=tm/\tm<=100000)(Gl:List (Sg×Unit))(L:LV)(val:Int):∀k,k<=c.n->QT c Gl L ⟨se,tm,val⟩ k=(((qd c se tm k).map zkJ).filter (fun x=>(stG Gl L x.1).st==0)).map (fun x=>(x.1,(⟨2,qL⟩:SV)))
 |0,_=>rfl
 |k+1,g=>by
  have d:=zeJ f a b Gl L val k (by omega);unfold QT at d ⊢;dsimp only at d ⊢;rw[vy,List.filter_append,List.map_append,List.map_append,List.filter_append,List.map_append,d];congr 1;have e:=YV (Y8 f a b (show k<c.n by omega));rw[List.map_singleton,List.filter_cons,List.filter_cons,e];split
  ·simp[e]
  ·rfl
def adI(w:World)(b g N:Nat)(c:SX)(a:List WSg)(W:World):Prop:=∃v,W.1[b]?=E (.cells #[v] 105 (0,0))/\Zd W w.1.size v (c::a.map (fun x=>(x.1,(⟨2,qL⟩:SV))))/\B_ w W/\(∀r,v.ownBlock=E r->r=g\/N<=r)/\N<=W.1.size
theorem adI.later{c N:Nat}{f:SX}{a:List WSg}{W':World}(h:adI w c g N f a W)(b:B_ W W'):adI w c g N f a W':=by
 obtain⟨v,d,i,e,j,k⟩:=h;exact⟨v,(b.block _ (zd d)).trans d,zY i b,e.trans (b.mono e.size),j,Nat.le_trans k b.size⟩
theorem znM{ex:Nat->Prop}{m:Nat}{v:Value}(b:ex g)(d:g<m):KX ex n m W (W.setCell (U g i) v):=
 ⟨(zj.refl _ _).setCell (p:=(U g i)) (fun _=> .inl b) v,fun k o _ a c=>(KeepsOthers.setCell W (U g i) v).same k o a (Obj.not_cells_of_walk c),fun k o e _ a=>(Below.heap_setCell _ _ _ _ (show k≠g by omega)).trans a⟩
theorem zme(b:tm/c.wh (-1)=we)(hv: -2147483648<=val/\val<=2147483647)(a:(vf L ⟨-1,se,we⟩).isSome=false):((⟨-1,se,we⟩,⟨1,xP [kR val]⟩):SX)=zmW c L ⟨se,tm,val⟩:=by
 subst b;unfold zmW;have e:xt c ⟨se,tm,val⟩=⟨-1,se,tm/c.wh (-1)⟩:=rfl;rw[e];cases h:vf L ⟨-1,se,tm/c.wh (-1)⟩with
 |none=>rw[zly val hv];rfl
 |some v=>rw[h]at a;simp at a
theorem zmf{b:SX}(i:tm/c.wh (-1)=we)(hv: -2147483648<=val/\val<=2147483647)(d:(vf L ⟨-1,se,we⟩).isSome=true)(g:stX L ⟨-1,se,we⟩=b)(a:∀p∈L,p.1.t= -1->p.2.cl.small):((⟨-1,se,we⟩,⟨1,xP [kR val,b.2.cl]⟩):SX)=zmW c L ⟨se,tm,val⟩:=by
 subst i;unfold zmW;have e:xt c ⟨se,tm,val⟩=⟨-1,se,tm/c.wh (-1)⟩:=rfl;rw[e];cases h:vf L ⟨-1,se,tm/c.wh (-1)⟩with
 |none=>rw[h]at d;simp at d
 |some v=>
  have f:b.2=v:=by rw[<-g];unfold stX;rw[h]
  rw[f,zlz val hv v.cl (a _ (jj h) rfl)];rfl
theorem zgt{s:Nat}{tv:Value}{lb gb:Nat}{Gl:List (Sg×Unit)}(h:xK w s c tv lb gb Gl L)(hc:c.ok)(se tm val:Int)(aY:0<=se/\se<4)(am:0<=tm/\tm<=100000)(bN: -2147483648<=val/\val<=2147483647)(cs:∀p∈L,p.1.t= -1->p.2.cl.small):
  Calls prog 64 #[(O s),I se,I tm,i_ val] w fun e w'=>∃v,e=.returned v/\Zd w' w.1.size v (yI c Gl L ⟨se,tm,val⟩)/\B_ w w':=by
 have cG:=hc.n1;have bk:(⟨-1,se,tm/c.wh (-1)⟩:Sg).wf:=by
  obtain⟨ct,cJ⟩:=hc.wh (t:= -1) (by omega) (by omega);have hd:0<=tm/c.wh (-1):=Int.ediv_nonneg am.1 (by omega);have cE:tm/c.wh (-1)<=tm:=Int.ediv_le_self _ am.1;refine⟨?_,?_,?_⟩<;>unfold xX<;>simp only<;>omega
 obtain⟨we,ap⟩:∃we,tm/c.wh (-1)=we:=⟨_,rfl⟩;have cr:=h.lt;have bq:=ze (zeN h.hd hc (-1) se tm (by omega) (by omega) am);rw[ap]at bq bk;have H:=ze h;have aX:=ze ap;have a8:=ze bk;obtain⟨bL,bM⟩:=bN;obtain⟨P,bK⟩:∃P,stX L ⟨-1,se,we⟩=P:=⟨_,rfl⟩;obtain⟨ok,bI⟩:∃ok,(vf L ⟨-1,se,we⟩).isSome=ok:=⟨_,rfl⟩;have b7:=ze bK;have av:=ze bI;clear h ap bk bK bI;refine(callsIn_wide (n:=7)).1 ?_;refine callsIn_of_wp_marks func64 rfl trivial ?_ rfl;simp only[ntmps64,sZz,Nat.reduceAdd,Nat.reduceSub];refine wpIn_wide.2 ?_;go_wp2_with fail;refine bq.mono ?_;rintro e w1 ⟨rfl,bv⟩;have b1:=ze bv;clear bv;go_wp2_with fail;obtain⟨y0,y1,bz,yz⟩:=box2 w1 (.cells #[I (-1),I se,I we] 146) (.cells #[I 1,I val,i_ val,i_ val] 115);generalize((w1.alloc (.cells #[I (-1),I se,I we] 146)).alloc (.cells #[I 1,I val,i_ val,i_ val] 115))=X at*;have q:B_ w X:=b1.trans (bz.mono b1.size);obtain⟨-,-,-,-,-,-,-,x7,-⟩:=(H.later q).cells;obtain⟨k0,k1,k2,-⟩:=zc y0;have cI:s<X.1.size:=G cr q.size;have bD:w1.1.size<X.1.size:=by omega
 have bh:w1.1.size+1<X.1.size:=by omega
 have g0:=Xg (X:=X) H.live q a8;have g1:=Xg (X:=X.drew) H.live q.drew a8;have g2:=fun o=>Xg (X:=X.alloc o) H.live (q.alloc q.size o) a8;have g3:=fun o=>Xg (X:=(X.alloc o).drew) H.live (q.alloc q.size o).drew a8;have g4:=fun o=>Xg (X:=X.drew.alloc o) H.live (q.drew.alloc q.drew.size o) a8;rw[ud b7,ud av]at g0 g1;simp only[ud b7,ud av]at g2 g3 g4;have ax:=ze q;have Y0:=ze y0;have Y1:=ze y1;have YZ:=ze yz;clear q y0 y1 yz bz;go_region
 have bw:B_ X ((X.alloc (.cells (xZz P) 148)).drew):=((z _ _).alloc (S _) _).drew;have bF:((X.alloc (.cells (xZz P) 148)).drew).1[X.1.size]?=E (.cells (xZz P) 148 (0,0)):=zo _ _;have bT:((X.alloc (.cells (xZz P) 148)).drew).1.size=X.1.size+1:=zE _ _;generalize((X.alloc (.cells (xZz P) 148)).drew)=Y at*;have a1:=ze bw;have cb:=ze bF;have ch:=ze bT;clear g0 g1 g2 g3 g4 x7 k0 k1 k2 bw bF bT;rename_i Q1 K1 aK1 K2 aK2;have b0:∀(a4 aD aE aF aG v20 aH v22 aI aJ v25 aK aL aM aN aO aP aQ aR aS aT aU v37 aV v39:Value) (a:Cl) (Z:World),(∀Q,B_ Z Q->Hid (Calls prog 123 #[a4] Q fun e w'=>e=.returned (.agg #[I a.cnt,I a.sum,i_ a.mn,i_ a.mx])/\B_ Q w'))->Hid (((⟨-1,se,we⟩,⟨1,a⟩):SX)=zmW c L ⟨se,tm,val⟩)->Hid (B_ w Z)->Hid (Z.1[w1.1.size]?=E (.cells #[I (-1),I se,I we] 146 (0,0)))->K1 {tmps:=#[(O s),I se,I tm,i_ val,u_,u_,u_,u_,.slice none 0 0,(O w1.1.size),a4,aD,aE,u_,u_,(O s),I se,I tm,aF,aG,v20,aH,v22,aI,aJ,v25,aK,aL,aM,aN,aO,aP,aQ,aR,aS,aT,aU,v37,aV,v39,u_,u_,u_,u_,u_,u_,u_,u_,u_,u_,u_,u_,u_,u_,u_,u_,u_,u_,u_],defers:=[]} Z:=by
  intro a4 aD aE aF aG v20 aH v22 aI aJ v25 aK aL aM aN aO aP aQ aR aS aT aU v37 aV v39 a Z HJ u N a5;refine aK1 _ _ ?_;clear aK2 aK1;go_wp2_with fail;rename_i K3 aK3;obtain⟨bY,bZ,c0,-⟩:=zc a5;have y:w1.1.size<Z.1.size:=zd a5;have ab:∀(bx g:Nat) (T:World),Hid (B_ w T)->Hid (T.1[bx]?=E (.cells #[.slice (E (U g 0)) 1 1] 105 (0,0)))->Hid (T.1[g]?=E (.cells #[I (-1),I se,I we,I 1,I a.cnt,I a.sum,i_ a.mn,i_ a.mx] 148 (0,0)))->Hid (w.1.size<=bx/\w.1.size<=g)->K3 {tmps:=#[(O s),I se,I tm,i_ val,u_,u_,u_,u_,.slice none 0 0,(O w1.1.size),a4,aD,aE,(O bx),u_,(O s),I se,I tm,aF,aG,v20,aH,v22,aI,aJ,v25,aK,aL,aM,aN,aO,aP,aQ,aR,aS,aT,aU,v37,aV,v39,.agg #[I (-1),I se,I we],a4,.agg #[I a.cnt,I a.sum,i_ a.mn,i_ a.mx],.agg #[I (-1),I se,I we,I 1,I a.cnt,I a.sum,i_ a.mn,i_ a.mx],.slice (E (U g 0)) 1 1,u_,u_,u_,u_,u_,u_,u_,u_,u_,u_,u_,u_,u_,u_],defers:=[]} T:=by
   intro bx g T aw b2 HG c2;refine aK3 _ _ ?_;obtain⟨cn,cp⟩:=ud c2;have cm:=zd b2;have co:=zd HG;have bi:=H.later aw;obtain⟨ba,bc,bS⟩:=Kd bi.hd se tm;obtain⟨C,b9⟩:∃C,Kc T s se tm=C:=⟨_,rfl⟩;rw[b9]at ba bc bS;have b4:=ze (Ka s se tm T);rw[b9]at b4;have b8:=ze (Vp 183 #[(O T.1.size),(O (T.1.size+1)),(O (T.1.size+2))] 121 #[(O s)] #[] C);obtain⟨bg,be,ay,bR⟩:=box2 C (.cells #[.func (.func 183) #[] #[(O T.1.size),(O (T.1.size+1)),(O (T.1.size+2))]] 199) (.cells #[.func (.func 121) #[(O s)] #[]] 206);obtain⟨X2,bt⟩:∃X2,((C.alloc (.cells #[.func (.func 183) #[] #[(O T.1.size),(O (T.1.size+1)),(O (T.1.size+2))]] 199)).alloc (.cells #[.func (.func 121) #[(O s)] #[]] 206))=X2:=⟨_,rfl⟩;rw[bt]at bg be ay bR b8;have a6:B_ T X2:=bc.trans (ay.mono (by omega));have aZ:B_ w X2:=aw.trans (a6.mono aw.size);have ak:=bi.later a6;have bd:=H.foot_lt;have ai:=zbd (ex:=fun k=>k=bx\/k=g) (n:=X2.1.size) T.1.size s c hc tv lb gb se tm aY am X2 (ba.later ay) (fun i hi=>⟨by omega,by omega⟩) ⟨by omega,by omega⟩ (fun k hk=>by have:=bd k (.inr (.inl hk));constructor<;>omega);have aj:=ZH (fun x:WSg=>x.1) 183 #[(O T.1.size),(O (T.1.size+1)),(O (T.1.size+2))] Yc 121 #[(O s)] #[] Xi (fun x=>(stG Gl L x.1).st==0) C.1.size (C.1.size+1) X2 (S _) ⟨by omega,by omega⟩ ⟨by omega,by omega⟩ bg be
    (fun x W ⟨m,hk⟩=>Yk (ak.kx hk (fun k hh=>by have:=bd k hh;constructor<;>omega)) x.1 x.2) ai
   have br:=ze aj;have a9:=ze aZ;have aW:=ze ((a6.block _ cm).trans b2);have bn:=ze ((a6.block _ co).trans HG);have cL:T.1.size<=X2.1.size:=a6.size;clear bi ba bc bS bg be ay bR a6 aZ ak bd ai aj b9 bt b2 HG;go_wp2_with(first
    |(go_at_call 120;refine b4.mono ?_;rintro e C' ⟨rfl,cj⟩;subst cj)
    |(go_at_call 124;refine b8.mono ?_;rintro e aa ⟨rfl,bu⟩;subst bu))
   rename_i K4 aK4;have cC:=a9.size;refine(wpIn_wide (n:=7)).1 ?_;refine yk (F:=Fence.wide) (n:=7) rfl (by omega) (gf:=194) (lb:=#[(O C'.1.size),(O (C'.1.size+1))]) rfl trivial Vo (ud br (aa.1.size+2) (by omega)) (S _) (fun h k=>h.trans k) (fun W o o' h hc hw=>KX.putObj o' (by omega) (by omega) h hw) (z _ _) (fun _=>rfl)
    (adI w bx g aa.1.size (⟨-1,se,we⟩,⟨1,a⟩)) (fun _ _ _=>False)
    (fun s A B row hs hg hr=>by
     obtain⟨v,h1,h2,h3,h4,h5⟩:=hs;exact⟨v,zH h1 hg (fun r e=>(hr r e).2),ZP h2 hg (fun r e=>(hr r e).2),h3.grown hg h3.size (fun k e=>by have:=(hr k e).1;omega),h4,Nat.le_trans h5 hg.size⟩)
    (fun _ _ _ _ _ hs _ _=>hs)
    ⟨_,ud aW,YO (xs:=[((⟨-1,se,we⟩,⟨1,a⟩):SX)].flatMap xD) (n:=1) (size:=8) (ud bn) rfl (by decide) (by simp[maxLen]) cp,ud a9,fun r e=> .inl (by cases e;rfl),S _⟩
    (fun x a' W=>∃Bx,aa.1.size<=Bx/\W.1[Bx]?=E (.cells #[I x.1.t,I x.1.se,I x.1.we] 146 (0,0))/\a'={tmps:=#[(O s),I se,I tm,i_ val,u_,u_,u_,u_,.slice none 0 0,(O w1.1.size),a4,aD,aE,(O bx),(O Bx),(O s),I se,I tm,aF,aG,v20,aH,v22,aI,aJ,v25,aK,aL,aM,aN,aO,aP,aQ,aR,aS,aT,aU,v37,aV,v39,.agg #[I (-1),I se,I we],a4,.agg #[I a.cnt,I a.sum,i_ a.mn,i_ a.mx],.agg #[I (-1),I se,I we,I 1,I a.cnt,I a.sum,i_ a.mn,i_ a.mx],.slice (E (U g 0)) 1 1,(O s),I se,I tm,.func (.func 183) #[] #[(O T.1.size),(O (T.1.size+1)),(O (T.1.size+2))],(O s),.func (.func 121) #[(O s)] #[],.func (.func 194) #[] #[(O C'.1.size),(O (C'.1.size+1))],.agg #[I x.1.t,I x.1.se,I x.1.we],u_,u_,u_,u_,u_,u_],defers:=[]})
    (fun x a' s A B row hs hg hr=>by
     obtain⟨Bx,h1,h2,h3⟩:=hs;exact⟨Bx,h1,zH h2 hg (fun r e=>(hr r e).2),h3⟩) ?assign ?body ?done ?stop
   case assign=>
    rintro l ar x W K hI hK;have HK:=ze hK;have HI:=ze hI;clear hK hI;gi_wp2;have a7:=(z W.1.size W).alloc (S _) (.cells #[I x.1.t,I x.1.se,I x.1.we] 146);have cw:aa.1.size<=W.1.size:=(by obtain⟨v,-,-,-,-,h5⟩:=ud HI;exact h5);exact ud HK _ _ (zu a7) (KX.of_below a7) (HI.later a7) ⟨W.1.size,cw,zo _ _,rfl⟩
   case body=>
    rintro l ar x a' W hl ⟨r,hr⟩ ⟨v,i1,i2,i3,i4,i5⟩ ⟨Bx,cA,hx,rfl⟩ aB;have al:=zd i1;have cK:=zd hx;obtain⟨c1,-⟩:=zc i1;obtain⟨x0,x1,x2,-⟩:=zc hx;have cH:=hc.n4;have bH:((((⟨-1,se,we⟩,⟨1,a⟩):SX))::ar.map (fun x=>(x.1,(⟨2,qL⟩:SV)))).length<=1000000:=(by rw[List.length_cons,List.length_map];omega);obtain⟨zs,bl⟩:∃zs,(((⟨-1,se,we⟩,⟨1,a⟩):SX))::ar.map (fun x=>(x.1,(⟨2,qL⟩:SV)))=zs:=⟨_,rfl⟩;rw[bl]at i2 bH;have cg:=ze bl;have bo:=ze i1;have a2:=ze i2;have b5:=ze i3;have bp:=ze i4;have HX:=ze hx;clear i1 i2 i3 i4 hx hr bl aB br aW bn aw b4 b8 a9;gi_wp2_with (first
     |(gi_at_builtin;refine zlY rfl _ _ rfl w.1.size _ zs ((x.1,⟨2,qL⟩):SX) rfl ((ud a2).alloc _) W.1.size rfl (zo _ _) bH (by rw[zE];omega) ?_;intro g' bs w3 ag az bP cx
       have bB:=Kr (a2.alloc (.cells #[I x.1.t,I x.1.se,I x.1.we,I 2,I 0,I 0,i_ 0,i_ 0] 148)) az aa.1.size
       have b3:w3.1[bx]?=E (.cells #[v] 105 (0,0)):=(az.block bx (by rw[zE];omega) (fun e=>zv (ud bo) (ud a2) (by decide) bx e.symm rfl)).trans ((Below.heap_alloc _ _ _ al).trans (ud bo))
       obtain⟨d1,-⟩:=zc b3
       have f1:w3.frozen? (U bx 0)=false:=zI b3 0
       have cy:=zd b3
       have cc:=ze ag
       have c3:=ze az
       have c9:=ze bB
       have bm:=ze b3
       have ce:=ze bP
       clear ag az bB b3 bP
       go_frame)
     |gi_in)
    have hk:=ud c9;have hg:(W.alloc (.cells #[I x.1.t,I x.1.se,I x.1.we,I 2,I 0,I 0,i_ 0,i_ 0] 148)).grownBy w3 v.ownBlock:=ud c3;have a0:=ud cc;have hb:=ud b5;have a7:=(z W.1.size W).alloc (S _) (.cells #[I x.1.t,I x.1.se,I x.1.we,I 2,I 0,I 0,i_ 0,i_ 0] 148);have ck:B_ w w3:=(hb.alloc hb.size _).grown hg (by have:=hb.size;rw[zE];omega) (fun k e=>(World.ownsRow.lt a2 k e).1);refine⟨((zu a7).trans hk.1).trans ((KeepsOthers.setCell w3 (U bx 0) _).from _),((KX.of_below a7).trans (KX.grown hg (fun r e=>⟨?_,?_⟩))).trans (znM (.inl rfl) (by omega)),?_⟩
    ·rcases ud bp r e with h|h
     ·exact .inl (.inr h)
     ·exact .inr h
    ·obtain⟨cz,bA⟩:=zG (a2.alloc (.cells #[I x.1.t,I x.1.se,I x.1.we,I 2,I 0,I 0,i_ 0,i_ 0] 148)) e;exact⟨_,_,bA⟩
    ·refine⟨_,xq (i:=0) bm _,?_,ck.setCell (p:=(U bx 0)) cn _,fun r e=>?_,?_⟩
     ·have aC:=zi (w':=w3.setCell (U bx 0) (.slice (E (U g' 0)) (zs.length+1) bs)) a0 (zk (f:=fun k=>k=bx) (zj.refl _ _) rfl) (fun k cq e=>zv (ud bm) a0 (by decide) k cq e);have ez:(((⟨-1,se,we⟩,⟨1,a⟩):SX))::(ar++[x]).map (fun x=>(x.1,(⟨2,qL⟩:SV)))=zs++[((x.1,⟨2,qL⟩):SX)]:=by
       rw[List.map_append,<-List.cons_append,ud cg];rfl
      rw[ez];unfold Zd;rw[List.length_append,List.length_singleton]at aC ⊢;exact aC
     ·have er:r=g':=(by cases e;rfl);subst er;rcases ud ce with h|h
      ·exact ud bp _ h
      ·right;rw[h,zE];omega
     ·have:=hg.size;rw[zE]at this;simp;omega
   case done=>
    rintro D xs W hD hS ⟨v,i1,i2,i3,i4,i5⟩ hK;obtain⟨ys,rfl,bQ⟩:=hS;obtain⟨c1,-⟩:=zc i1;have al:=zd i1;have a2:=ze i2;have b5:=ze i3;have b6:=ze hK;have cf:=ze bQ;clear i1 i2 i3 i4 hK bQ;refine aK4 _ _ ?_;go_wp2_with fail;refine⟨by simp,.inl ⟨_,_,rfl,run_takeDeferred (ud b6),?_⟩⟩;refine⟨_,results_tmp rfl _ _ _,_,rfl,?_,xG b5 (S _) (by omega) b6 _⟩;have aC:=ZP a2 (grownBy_putObj' W D (.deferred none)) (fun r e=>by cases e;exact⟨_,b6,rfl⟩);have ez:yI c Gl L ⟨se,tm,val⟩=(((⟨-1,se,we⟩,⟨1,a⟩):SX))::xs.map (fun x=>(x.1,(⟨2,qL⟩:SV))):=by
     unfold yI;rw[<-ud u,ud cf,zeJ hc aY am Gl L val c.n (S _)]
    rw[ez];exact aC
   case stop=>
    rintro D c ar W _ _ h _;exact h.elim
  have c8:=HJ Z (z _ _);have c7:=HJ Z.drew (z _ _).drew;have bb:B_ Z (Z.alloc zed):=(z _ _).alloc (S _) _;have c4:=HJ (Z.alloc zed) bb;have c5:=HJ (Z.alloc zed).drew bb.drew;have c6:=HJ (Z.drew.alloc zed) ((z _ _).drew.alloc (S _) _);have bU:=zE Z zed;have bG:=zo Z zed;have ca:=ze bG;have bf:¬w1.1.size=Z.1.size:=by omega
  clear HJ bG bb aK3;go_region_held3 (fun w'=>w'.cell? (U w1.1.size 0)=E (I (-1))/\w'.cell? (U w1.1.size 1)=E (I se)/\w'.cell? (U w1.1.size 2)=E (I we)) (go_keep) (first
   |(go_at_call 123;(first|(with_reducible refine(ud c8).mono ?_)|(with_reducible refine(ud c7).mono ?_));rintro e J ⟨rfl,b⟩;have d:B_ Z J:=⟨b.os,b.tape,b.output,b.size,b.block⟩;have bV:=(d.cell (p:=(U w1.1.size 0)) y).trans bY;have bW:=(d.cell (p:=(U w1.1.size 1)) y).trans bZ;have bX:=(d.cell (p:=(U w1.1.size 2)) y).trans c0;have bC:=G y d.size;have au:=ze d;clear d b)
   |(go_at_call 123;(first|(with_reducible refine(ud c4).mono ?_)|(with_reducible refine(ud c5).mono ?_)|(with_reducible refine(ud c6).mono ?_));rintro e J ⟨rfl,b⟩;have d:R (Z.1.size+1) (Z.alloc zed) J:=⟨b.os,b.tape,b.output,b.size,fun k hk=>b.block k (by first|exact Nat.lt_of_lt_of_eq hk bU.symm|exact hk)⟩;have bV:=(d.cell (p:=(U w1.1.size 0)) (Nat.lt_succ_of_lt y)).trans (((z Z.1.size Z).alloc (S _) zed).cell (p:=(U w1.1.size 0)) y|>.trans bY);have bW:=(d.cell (p:=(U w1.1.size 1)) (Nat.lt_succ_of_lt y)).trans (((z Z.1.size Z).alloc (S _) zed).cell (p:=(U w1.1.size 1)) y|>.trans bZ);have bX:=(d.cell (p:=(U w1.1.size 2)) (Nat.lt_succ_of_lt y)).trans (((z Z.1.size Z).alloc (S _) zed).cell (p:=(U w1.1.size 2)) y|>.trans c0);have aq:=(d.block Z.1.size (Nat.lt_succ_self _)).trans ca;obtain⟨jc,-⟩:=zc aq;have jf:=zI aq 0;have bC:=G (Nat.lt_succ_of_lt y) (Nat.le_trans (Nat.le_of_eq bU.symm) d.size);have cv:=zd aq;have cM:(J.setCell (U Z.1.size 0) (.slice (E (U J.1.size 0)) 1 1)).cell? (U w1.1.size 0)=E (I (-1)):=(JI bf _).trans bV;have cN:(J.setCell (U Z.1.size 0) (.slice (E (U J.1.size 0)) 1 1)).cell? (U w1.1.size 1)=E (I se):=(JI bf _).trans bW;have cO:(J.setCell (U Z.1.size 0) (.slice (E (U J.1.size 0)) 1 1)).cell? (U w1.1.size 2)=E (I we):=(JI bf _).trans bX;have cF:w1.1.size<(J.setCell (U Z.1.size 0) (.slice (E (U J.1.size 0)) 1 1)).1.size:=(by simpa using bC);have au:=ze d;have ci:=ze aq;clear d b aq))
  ·have j:B_ w J:=N.trans (au.mono N.size);obtain⟨e1,e2,e3,-⟩:=box2 J (.cells #[I (-1),I se,I we,I 1,I a.cnt,I a.sum,i_ a.mn,i_ a.mx] 148) (.cells #[.slice (E (U J.1.size 0)) 1 1] 105);exact ab _ _ _ (j.trans (e3.mono j.size)) e2 e1 ⟨by have:=j.size;omega,j.size⟩
  ·have j:B_ w J:=N.trans (au.mono N.size);obtain⟨e1,e2,e3,-⟩:=box2 J (.cells #[.slice (E (U (J.1.size+1) 0)) 1 1] 105) (.cells #[I (-1),I se,I we,I 1,I a.cnt,I a.sum,i_ a.mn,i_ a.mx] 148);exact ab _ _ _ (j.trans (e3.mono j.size)) e1 e2 ⟨j.size,by have:=j.size;omega⟩
  ·have ao:=ud N;have an:B_ w (Z.alloc zed):=ao.alloc ao.size _;have j:B_ w J:=an.trans (au.mono (by have:=ao.size;omega));have bO:=j.setCell (p:=(U Z.1.size 0)) ao.size (.slice (E (U J.1.size 0)) 1 1);have al:(J.setCell (U Z.1.size 0) (.slice (E (U J.1.size 0)) 1 1)).1.size=J.1.size:=(by simp);have e2:=zo (J.setCell (U Z.1.size 0) (.slice (E (U J.1.size 0)) 1 1)) (.cells #[I (-1),I se,I we,I 1,I a.cnt,I a.sum,i_ a.mn,i_ a.mx] 148);rw[al]at e2;exact ab _ _ _ (bO.alloc bO.size _) ((Below.heap_alloc _ _ _ (by rw[al];exact cv)).trans (xq (i:=0) ci _)) e2 ⟨ao.size,by have:=j.size;omega⟩
 clear aK1;cases ok with
 |false=>
  obtain⟨a,a3⟩:∃a,xP [kR val]=a:=⟨_,rfl⟩;have u:=ze (zme aX ⟨bL,bM⟩ av);rw[a3]at u;have ad:=(a1.block (w1.1.size+1) bh).trans Y1;have ac:CAt Y (w1.1.size+1) [kR val]:=CAt.of_owns (base:=0) (cap:=1) (e:=115) (YO (xs:=Zr (kR val)) ad rfl (by simp) (by simp[maxLen]) (Nat.zero_le _));have bJ:w1.1.size+1<Y.1.size:=G bh a1.size;have HJ:∀Q,B_ Y Q->Hid (Calls prog 123 #[.slice (E (U (w1.1.size+1) 0)) 1 1] Q fun e w'=>e=.returned (.agg #[I a.cnt,I a.sum,i_ a.mn,i_ a.mx])/\B_ Q w'):=fun Q ae=>by
   have:=zaa (E (U (w1.1.size+1) 0)) (w1.1.size+1) 1 [kR val] (fun _=>rfl) (by simp) Q (G bJ ae.size) (ac.below ae bJ);rw[a3]at this;exact this
  have N:=ze (ax.trans (a1.mono ax.size));have a5:=ze ((a1.block _ bD).trans Y0);clear ad ac a3;go_wp2_with fail;exact b0 _ _ _ _ _ _ _ _ _ _ _ _ _ _ _ _ _ _ _ _ _ _ _ _ _ a Y HJ u N a5
 |true=>
  obtain⟨-,-,-,-,o1,o2,o3,o4,-⟩:=zc cb;have ct:=b1.size;have ad:=(a1.block (w1.1.size+1) bh).trans Y1;have cd:=ze (YO (base:=w.1.size) (xs:=[kR val].flatMap Zr) (n:=1) (size:=4) ad rfl (by decide) (by simp[maxLen]) (by omega));have cB:X.1.size<Y.1.size:=by rw[ud ch];omega
  have cD:w.1.size<=Y.1.size:=by omega
  clear ad;go_wp2_with(first|(at_builtin;refine zjq rfl _ _ rfl w.1.size (.slice (E (U (w1.1.size+1) 0)) 1 1) [kR val] P.2.cl rfl (cd.alloc _) Y.1.size rfl (zo _ _) ?hll ?hbb ?_;(case hll=>simp);(case hbb=>(rw[zE];omega));intro g cap Z a0 af aB;have HG:=ze af;have HO:=ze a0;clear af a0)|go_in);obtain⟨a,a3⟩:∃a,xP [kR val,P.2.cl]=a:=⟨_,rfl⟩;have u:=ze (zmf aX ⟨bL,bM⟩ av b7 cs);rw[a3]at u;have ac:CAt Z g [kR val,P.2.cl]:=CAt.of_owns (base:=w.1.size) (cap:=cap) (e:=115) HO;have HJ:∀Q,B_ Z Q->Hid (Calls prog 123 #[.slice (E (U g 0)) 2 cap] Q fun e w'=>e=.returned (.agg #[I a.cnt,I a.sum,i_ a.mn,i_ a.mx])/\B_ Q w'):=fun Q ae=>by
   have:=zaa (E (U g 0)) g cap [kR val,P.2.cl] (fun _=>rfl) (by simp) Q (G aB ae.size) (ac.below ae aB);rw[a3]at this;exact this
  have bj:=ax.trans (a1.mono ax.size);have aA:=(ud HG);have ah:(Value.slice (E (U (w1.1.size+1) 0)) 1 1).ownBlock=E (w1.1.size+1):=rfl;rw[ah]at aA;have an:=bj.alloc bj.size (.cells #[I P.2.cl.cnt,I P.2.cl.sum,i_ P.2.cl.mn,i_ P.2.cl.mx] 115);have N:=ze (an.grown aA an.size (fun k e=>by cases e;omega));have cu:=zE Y (.cells #[I P.2.cl.cnt,I P.2.cl.sum,i_ P.2.cl.mn,i_ P.2.cl.mx] 115);have bE:=(a1.block _ bD).trans Y0;have a5:=ze ((aA.block w1.1.size (by omega) (by simp)).trans ((Below.heap_alloc _ _ _ (by omega)).trans bE));clear ac a3 bj aA ah an cu bE o1 o2 o3 o4;exact b0 _ _ _ _ _ _ _ _ _ _ _ _ _ _ _ _ _ _ _ _ _ _ _ _ _ a Z HJ u N a5
