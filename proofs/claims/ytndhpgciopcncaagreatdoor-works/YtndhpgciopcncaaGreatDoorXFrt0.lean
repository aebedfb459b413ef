import Derived.Test.YtndhpgciopcncaaGreatDoorXBrd0
import Derived.Test.YtndhpgciopcncaaGreatDoorXLay2
open Nat renaming le_refl → J
open Option renaming some → E
open Go.RowKit.Below renaming refl → Q
set_option linter.unusedVariables false
set_option maxRecDepth 100000
set_option maxHeartbeats 4000000
open Go.Proofs.Tryz
open Go renaming undef → u_
namespace Go.Proofs.YtndhpgciopcncaaGreatDoor
open Go.RowKit Go.Maps Go.Shelf
variable {N m n:Nat} {ex:Nat->Prop} {o o':Option Tsk} {ov:Value} {A B W X w:World}
attribute [local go_sem] Oper.semAt_some
def YH{α:Type}(a:α->α->Int)(o:Option α)(x:α):Option α:=match o with
 |none=>E x
 |some f=>if a x f<0 then E x else E f
def Zs{α:Type}(a:α->α->Int)(l:List α):Option α:=l.foldl (YH a) none
theorem zfH{α:Type}(a:α->α->Int)(l:List α)(x:α):Zs a (l++[x])=YH a (Zs a l) x:=by simp[Zs]
theorem QJ{α:Type}(a:α->α->Int):∀(l:List α) (f:α),∃g,l.foldl (YH a) (E f)=E g/\(g=f\/g∈l)
 |[],f=>⟨f,rfl,.inl rfl⟩
 |x::l,f=>by
  simp only[List.foldl_cons];by_cases h:a x f<0
  ·obtain⟨g,c,b⟩:=QJ a l x;refine⟨g,by simp only[YH,if_pos h];exact c,.inr ?_⟩;rcases b with rfl|b<;>simp[*]
  ·obtain⟨g,c,b⟩:=QJ a l f;refine⟨g,by simp only[YH,if_neg h];exact c,?_⟩;rcases b with rfl|b
   ·exact .inl rfl
   ·exact .inr (by simp[b])
theorem zia{α:Type}(a:α->α->Int):∀l:List α,(l=[]/\Zs a l=none)\/∃g∈l,Zs a l=E g
 |[]=> .inl ⟨rfl,rfl⟩
 |x::l=> .inr (by
  obtain⟨g,c,b⟩:=QJ a l x;refine⟨g,?_,c⟩;rcases b with rfl|b<;>simp[*])
def ZF(o:Option Tsk):Obj:=match o with
 |none=> .cells #[.nilIface,I 0,I 0,I 0] 177 (0,0)
 |some x=> .cells (tZz x) 177 (0,0)
structure FT(ov:Value)(w:World)(o:Option Tsk)(W:World):Prop where
 i1:W.1[w.1.size]?=E (.cells #[ov] 182 (0,0))
 i2:W.1[w.1.size+1]?=E (ZF none)
 i3:W.1[w.1.size+2]?=E (ZF o)
 i4:W.1[w.1.size+3]?=E (.cells #[.bool o.isSome] 4 (0,0))
 i5:B_ w W
theorem FT.own{row:Option Nat}(f:w.1.size<=N)(c:FT ov w o A)(a:A.grownBy B row)(b:∀r,row=E r->N<=r/\∃o:Obj,A.1[r]?=E o/\o.isCells=false):FT ov w o B:=by
 refine⟨zH c.i1 a (fun r e=>(b r e).2),zH (by exact c.i2) a (fun r e=>(b r e).2),?_,zH c.i4 a (fun r e=>(b r e).2),c.i5.grown a c.i5.size (fun k e=>by have:=(b k e).1;omega)⟩;have d:=c.i3;cases o with
 |none=>exact zH d a (fun r e=>(b r e).2)
 |some x=>exact zH d a (fun r e=>(b r e).2)
theorem FT.later(h:FT ov w o A)(a:B_ A B):FT ov w o B:=
 ⟨(a.block _ (zd h.i1)).trans h.i1,(a.block _ (zd h.i2)).trans h.i2,(a.block _ (zd h.i3)).trans h.i3,(a.block _ (zd h.i4)).trans h.i4,h.i5.trans (a.mono h.i5.size)⟩
theorem znB(h:FT ov w o W)(b:o'=o)(a:B_ W X):KeepsFrom N W X/\KX ex n m W X/\FT ov w o' X:=by
 subst b;exact⟨zu a,KX.of_below a,h.later a⟩
theorem zmO{x:Tsk}(hn:n<=w.1.size)(D:w.1.size+4<=m)(h:FT ov w o W)(j:o'=E x)(g:B_ W X):
  KeepsFrom N W (((((X.setCell (U (w.1.size+2) 0) (jZz x)).setCell (U (w.1.size+2) 1) (I x.si)).setCell (U (w.1.size+2) 2) (I x.tc)).setCell (U (w.1.size+2) 3) (I x.rest)).setCell (U (w.1.size+3) 0) (.bool true))/\KX ex n m W (((((X.setCell (U (w.1.size+2) 0) (jZz x)).setCell (U (w.1.size+2) 1) (I x.si)).setCell (U (w.1.size+2) 2) (I x.tc)).setCell (U (w.1.size+2) 3) (I x.rest)).setCell (U (w.1.size+3) 0) (.bool true))/\FT ov w o' (((((X.setCell (U (w.1.size+2) 0) (jZz x)).setCell (U (w.1.size+2) 1) (I x.si)).setCell (U (w.1.size+2) 2) (I x.tc)).setCell (U (w.1.size+2) 3) (I x.rest)).setCell (U (w.1.size+3) 0) (.bool true)):=by
 subst j;have d:=h.later g;have c:∃p q r s,X.1[w.1.size+2]?=E (.cells #[p,q,r,s] 177 (0,0)):=by
  have:=d.i3;cases o with
  |none=>exact⟨_,_,_,_,this⟩
  |some y=>exact⟨_,_,_,_,this⟩
 obtain⟨p,q,r,s,c⟩:=c;have l:=YG c (jZz x) (I x.si) (I x.tc) (I x.rest);have b:∀k,k≠w.1.size+2->((((X.setCell (U (w.1.size+2) 0) (jZz x)).setCell (U (w.1.size+2) 1) (I x.si)).setCell (U (w.1.size+2) 2) (I x.tc)).setCell (U (w.1.size+2) 3) (I x.rest)).1[k]?=X.1[k]?:=fun k a=>by
  rw[zW a,zW a,zW a,zW a]
 have t:=xq (i:=0) ((b (w.1.size+3) (by omega)).trans d.i4) (.bool true);have v:KeepsOthers W (((((X.setCell (U (w.1.size+2) 0) (jZz x)).setCell (U (w.1.size+2) 1) (I x.si)).setCell (U (w.1.size+2) 2) (I x.tc)).setCell (U (w.1.size+2) 3) (I x.rest)).setCell (U (w.1.size+3) 0) (.bool true)):=(((((yF g).trans (KeepsOthers.setCell _ _ _)).trans (KeepsOthers.setCell _ _ _)).trans (KeepsOthers.setCell _ _ _)).trans (KeepsOthers.setCell _ _ _)).trans (KeepsOthers.setCell _ _ _);have z:Below w.1.size W (((((X.setCell (U (w.1.size+2) 0) (jZz x)).setCell (U (w.1.size+2) 1) (I x.si)).setCell (U (w.1.size+2) 2) (I x.tc)).setCell (U (w.1.size+2) 3) (I x.rest)).setCell (U (w.1.size+3) 0) (.bool true)):=(((((g.mono h.i5.size).setCell (p:=(U (w.1.size+2) 0)) (show w.1.size<=w.1.size+2 by omega) _).setCell (p:=(U (w.1.size+2) 1)) (show w.1.size<=w.1.size+2 by omega) _).setCell (p:=(U (w.1.size+2) 2)) (show w.1.size<=w.1.size+2 by omega) _).setCell (p:=(U (w.1.size+2) 3)) (show w.1.size<=w.1.size+2 by omega) _).setCell (p:=(U (w.1.size+3) 0)) (show w.1.size<=w.1.size+3 by omega) _;have A:KX ex n m W (((((X.setCell (U (w.1.size+2) 0) (jZz x)).setCell (U (w.1.size+2) 1) (I x.si)).setCell (U (w.1.size+2) 2) (I x.tc)).setCell (U (w.1.size+2) 3) (I x.rest)).setCell (U (w.1.size+3) 0) (.bool true)):=by
  refine(KX.of_below g).trans ?_;refine⟨?_,fun k o' F a j=>?_,fun k o' u _ a=>?_⟩
  ·refine zj.mono (f:=fun k=>k=w.1.size+2\/k=w.1.size+3) ?_ (fun k _ e=> .inr (by omega));exact zk (zk (zk (zk (zk (zj.refl _ _) (.inl rfl)) (.inl rfl)) (.inl rfl)) (.inl rfl)) (.inr rfl)
  ·have B:k≠w.1.size+2:=fun e=> (by rw[e,c]at a;cases a;cases j);have C:k≠w.1.size+3:=fun e=> (by rw[e,d.i4]at a;cases a;cases j);rw[zW C,b k B];exact a
  ·rw[zW (by omega),b k (by omega)];exact a
 refine⟨v.from _,A,⟨?_,?_,?_,t,h.i5.trans z⟩⟩
 ·rw[zW (by omega),b _ (by omega)];exact d.i1
 ·rw[zW (by omega),b _ (by omega)];exact d.i2
 ·rw[zW (by omega)];exact l
theorem zfG{α:Type}(a:α->Tsk)(gf:Nat)(lb:Array Value)(eg:∀args w,(callFunc gf args).run prog w=.ok (.enter gf args) w)(of:Nat)(T:Array Value)(eo:∀args w,(callFunc of args).run prog w=.ok (.enter of args) w){S:List α->Prop}(i:α->α->Int)(w:World)(hn:n<=w.1.size)(aa:∀(x y:α) (W:World),B_ w W->Calls prog of (#[.agg #[.iface (a x).jt (.agg #[I (a x).s.t,I (a x).s.se,I (a x).s.we]),I (a x).si,I (a x).tc,I (a x).rest],.agg #[.iface (a y).jt (.agg #[I (a y).s.t,I (a y).s.se,I (a y).s.we]),I (a y).si,I (a y).tc,I (a y).rest]]++T) W fun e W'=>e=.returned (I (i x y))/\B_ W W')(a3:Z8 ex n prog gf lb (fun x:α=>#[.agg #[.iface (a x).jt (.agg #[I (a x).s.t,I (a x).s.se,I (a x).s.we]),I (a x).si,I (a x).tc,I (a x).rest]]) S N w):
  Calls prog 100 #[.func (.func gf) #[] lb,.func (.func of) #[] T] w fun e w'=>∃xs,S xs/\e=.returned (.tuple #[Vz ((Zs i xs).map a),.bool (Zs i xs).isSome])/\B_ w w':=by
 have a7:=ze a3;have ac:=ze aa;have ab:=ze eg;have a6:=ze eo;obtain⟨b1,b2,b3,a2,z⟩:=K5 w (.cells #[(.func (.func of) #[] T)] 182) (ZF none) (ZF none);have H:Hid (FT (.func (.func of) #[] T) w none ((((w.alloc (.cells #[(.func (.func of) #[] T)] 182)).alloc (ZF none)).alloc (ZF none)).alloc zhk)):=
  ⟨(Below.heap_alloc _ _ _ (by rw[z];omega)).trans b1,(Below.heap_alloc _ _ _ (by rw[z];omega)).trans b2,(Below.heap_alloc _ _ _ (by rw[z];omega)).trans b3,by have:=zo (((w.alloc (.cells #[(.func (.func of) #[] T)] 182)).alloc (ZF none)).alloc (ZF none)) zhk;rw[z]at this;exact this,a2.alloc (by rw[z];omega) _⟩
 have BZ:Hid (((((w.alloc (.cells #[(.func (.func of) #[] T)] 182)).alloc (ZF none)).alloc (ZF none)).alloc zhk).1.size=w.1.size+4):=by show _=_;rw[zE,z]
 clear a3 aa eg eo b1 b2 b3 a2 z;unfold ZF at H BZ;dsimp only at H BZ;refine(callsIn_wide (n:=7)).1 ?_;refine callsIn_of_wp_marks func100 rfl trivial ?_ rfl;simp only[ntmps100,sZz,Nat.reduceAdd,Nat.reduceSub];gi_wp2;obtain⟨W0,a9⟩:∃W0,((((w.alloc (.cells #[(.func (.func of) #[] T)] 182)).alloc (.cells #[.nilIface,I 0,I 0,I 0] 177)).alloc (.cells #[.nilIface,I 0,I 0,I 0] 177)).alloc zhk)=W0:=⟨_,rfl⟩;rw[a9]at H BZ ⊢;clear a9;have hz:W0.1.size=w.1.size+4:=ud BZ;refine yk (F:=Fence.wide) (n:=7) rfl (by omega) (gf:=gf) (lb:=lb) rfl trivial ab (ud a7 (w.1.size+6) (by omega)) (by omega) (fun h k=>h.trans k) (fun W o o' h hc hw=>KX.putObj o' (by omega) (by omega) h hw) H.i5 (fun _=>rfl)
  (fun q W=>FT (.func (.func of) #[] T) w ((Zs i q).map a) W)
  (fun _ _ _=>False)
  (fun s A B row hs hg hr=>FT.own (by omega) hs hg hr)
  (fun _ _ _ _ _ hs _ _=>hs)
  H
  (fun x a' W=>∃G,w.1.size+4<=G/\W.1[G]?=E (.cells #[.iface (a x).jt (.agg #[I (a x).s.t,I (a x).s.se,I (a x).s.we]),I (a x).si,I (a x).tc,I (a x).rest] 177 (0,0))/\a'={tmps:=#[.func (.func gf) #[] lb,.func (.func of) #[] T,u_,(O w.1.size),(O (w.1.size+1)),.bool false,(O (w.1.size+2)),(O (w.1.size+3)),(O G),.func (.func gf) #[] lb,.agg #[.iface (a x).jt (.agg #[I (a x).s.t,I (a x).s.se,I (a x).s.we]),I (a x).si,I (a x).tc,I (a x).rest],u_,u_,u_,u_,u_,u_,u_,u_,u_,u_,u_,u_],defers:=[]})
  (fun x a' s A B row hs hg hr=>by
   obtain⟨G,h1,h2,h3⟩:=hs;exact⟨G,h1,zH h2 hg (fun r e=>(hr r e).2),h3⟩) ?assign ?body ?done ?stop
 case assign=>
  rintro l q x W K b hK;have af:=b.i5.size;have al:=zd b.i4;have HK:=ze hK;have u:=ze b;clear hK b;gi_wp2;have a5:=(Q W.1.size W).alloc (J _) (.cells #[.iface (a x).jt (.agg #[I (a x).s.t,I (a x).s.se,I (a x).s.we]),I (a x).si,I (a x).tc,I (a x).rest] 177);refine ud HK _ _ (zu a5) (KX.of_below a5) (u.later a5) ⟨W.1.size,by omega,zo _ _,rfl⟩
 case body=>
  rintro l q x a' W hl ⟨r,hr⟩ b ⟨G,ak,hx,rfl⟩ am;have af:=b.i5.size;have Z:=zd hx;have ae:=zd b.i4;obtain⟨c1,-⟩:=zc b.i1;obtain⟨x0,x1,x2,x3,-⟩:=zc hx;have ah:¬G=w.1.size+2:=by omega
  have ai:¬G=w.1.size+3:=by omega
  have u:=ze b;have HX:=ze hx;have v:=zfH i q x;cases hF:Zs i q with
  |none=>
   rw[hF]at b u v;obtain⟨g0,g1,g2,g3,-⟩:=zc b.i3;have a8:=fun j=>zI (show W.1[w.1.size+2]?=E (.cells #[.nilIface,I 0,I 0,I 0] 177 (0,0))from b.i3) j;have ad:=fun j=>zI b.i4 j;obtain⟨c4,-⟩:=zc b.i4;have L:Hid ((Zs i (q++[x])).map a=E (a x)):=(by show _=_;rw[v];rfl);clear b hx hF v;generalize a x=X at*;gi_wp2;refine⟨fun _ h=>(by cases h),?_⟩;gi_wp2;all_goals(try go_bits)
   exact zmO hn (by omega) u L (Q _ _)
  |some f=>
   rw[hF]at b u v;simp only[Option.map_some]at b u;have a0:W.1[w.1.size+2]?=E (.cells #[.iface (a f).jt (.agg #[I (a f).s.t,I (a f).s.se,I (a f).s.we]),I (a f).si,I (a f).tc,I (a f).rest] 177 (0,0)):=b.i3;obtain⟨g0,g1,g2,g3,-⟩:=zc a0;obtain⟨c4,-⟩:=zc b.i4;have HC:=ze (ud ac x f W b.i5);have a1:=zd b.i3;have ag:=ze a6;have aj:=ud a6;clear b hx hF;by_cases ho:i x f<0
   ·have L:Hid ((Zs i (q++[x])).map a=E (a x)):=(by show _=_;rw[v];simp[YH,ho]);clear v;generalize i x f=O9 at*;generalize a x=X at*;generalize a f=Y at*;gi_wp2;refine⟨trivial,(CallsIn.inRound l (callsIn_wide.2 HC)).mono ?_⟩;rintro e w' ⟨rfl,d⟩;have d0:=(d.cell (p:=(U G 0)) Z).trans x0;have d1:=(d.cell (p:=(U G 1)) Z).trans x1;have d2:=(d.cell (p:=(U G 2)) Z).trans x2;have d3:=(d.cell (p:=(U G 3)) Z).trans x3;have e0:=(d.cell (p:=(U (w.1.size+2) 0)) a1).trans g0;have e1:=(d.cell (p:=(U (w.1.size+2) 1)) a1).trans g1;have e2:=(d.cell (p:=(U (w.1.size+2) 2)) a1).trans g2;have e3:=(d.cell (p:=(U (w.1.size+2) 3)) a1).trans g3;have e4:=(d.cell (p:=(U (w.1.size+3) 0)) ae).trans c4;have a8:=fun j=>zI (show w'.1[w.1.size+2]?=E (.cells (tZz Y) 177 (0,0))from(u.later d).i3) j;have ad:=fun j=>zI (u.later d).i4 j;have a4:=ze d;clear d;gi_wp2;all_goals(try go_bits)
    exact zmO hn (by omega) u L a4
   ·have L:Hid ((Zs i (q++[x])).map a=E (a f)):=(by show _=_;rw[v];simp[YH,ho]);have an:decide (i x f<0)=false:=(by simpa using ho);clear v;generalize i x f=O9 at*;generalize a x=X at*;generalize a f=Y at*;gi_wp2;refine⟨trivial,(CallsIn.inRound l (callsIn_wide.2 HC)).mono ?_⟩;rintro e w' ⟨rfl,d⟩;have a4:=ze d;clear d;gi_wp2;all_goals(try go_bits)
    exact znB u L a4
 case done=>
  rintro D xs W hD hS b hK;have u:=ze b;have HK:=ze hK;have HS:=ze hS;have m:D≠w.1.size+1:=by omega
  obtain⟨r0,r1,r2,r3,-⟩:=zc b.i2;have a8:=fun j=>zI (show W.1[w.1.size+1]?=E (.cells #[.nilIface,I 0,I 0,I 0] 177 (0,0))from b.i2) j;cases C:Zs i xs with
  |none=>
   rw[C]at b u;obtain⟨g0,g1,g2,g3,-⟩:=zc b.i3;obtain⟨c4,-⟩:=zc b.i4;have V:=ze C;clear b hK hS C;gi_wp2
   gi_region
   gi_wp2;have R:=zjQ (show W.1[w.1.size+1]?=E (.cells #[.nilIface,I 0,I 0,I 0] 177 (0,0))from u.i2) .nilIface (I 0) (I 0) (I 0);have M:(((((W.setCell (U (w.1.size+1) 0) .nilIface).setCell (U (w.1.size+1) 1) (I 0)).setCell (U (w.1.size+1) 2) (I 0)).setCell (U (w.1.size+1) 3) (I 0)).drew).1[D]?=E (.deferred (E [])):=by
    show((((W.setCell (U (w.1.size+1) 0) .nilIface).setCell (U (w.1.size+1) 1) (I 0)).setCell (U (w.1.size+1) 2) (I 0)).setCell (U (w.1.size+1) 3) (I 0)).1[D]?=_;rw[zW m,zW m,zW m,zW m];exact HK
   have P:=(u.i5).trans (YY (w:=W) (B:=w.1.size) (g:=w.1.size+1) (Nat.le_succ _) .nilIface (I 0) (I 0) (I 0));refine⟨by simp,.inl ⟨_,_,rfl,run_takeDeferred M,?_⟩⟩;refine⟨_,zn results100 _ _ (w.1.size+1) _ _ _ _ _ rfl rfl ((World.putObj_heap_other (fun e=>m e.symm)).trans R) underlying177 rfl (by kernel_rfl),xs,HS,?_,xG P (J _) (by omega) M _⟩;rw[ud V];rfl
  |some f=>
   rw[C]at b u;simp only[Option.map_some]at b u;have a0:W.1[w.1.size+2]?=E (.cells #[.iface (a f).jt (.agg #[I (a f).s.t,I (a f).s.se,I (a f).s.we]),I (a f).si,I (a f).tc,I (a f).rest] 177 (0,0)):=b.i3;obtain⟨g0,g1,g2,g3,-⟩:=zc a0;obtain⟨c4,-⟩:=zc b.i4;have V:Hid ((Zs i xs).map a=E (a f)/\(Zs i xs).isSome=true):=(by show _/\_;rw[C];exact⟨rfl,rfl⟩);clear b hK hS C a0;generalize a f=y at*;gi_wp2
   gi_region
   gi_wp2;have R:=zjQ (show W.1[w.1.size+1]?=E (.cells #[.nilIface,I 0,I 0,I 0] 177 (0,0))from u.i2) (jZz y) (I y.si) (I y.tc) (I y.rest);have M:((((W.setCell (U (w.1.size+1) 0) (jZz y)).setCell (U (w.1.size+1) 1) (I y.si)).setCell (U (w.1.size+1) 2) (I y.tc)).setCell (U (w.1.size+1) 3) (I y.rest)).drew.1[D]?=E (.deferred (E [])):=by
    show((((W.setCell (U (w.1.size+1) 0) (jZz y)).setCell (U (w.1.size+1) 1) (I y.si)).setCell (U (w.1.size+1) 2) (I y.tc)).setCell (U (w.1.size+1) 3) (I y.rest)).1[D]?=_;rw[zW m,zW m,zW m,zW m];exact HK
   have P:=(u.i5).trans (YY (w:=W) (B:=w.1.size) (g:=w.1.size+1) (Nat.le_succ _) (jZz y) (I y.si) (I y.tc) (I y.rest));refine⟨by simp,.inl ⟨_,_,rfl,run_takeDeferred M,?_⟩⟩;refine⟨_,zn results100 _ _ (w.1.size+1) _ _ _ _ _ rfl rfl ((World.putObj_heap_other (fun e=>m e.symm)).trans R) underlying177 rfl (by kernel_rfl),xs,HS,?_,xG P (J _) (by omega) M _⟩;rw[(ud V).1,(ud V).2];rfl
 case stop=>
  rintro D c q W _ _ h _;exact h.elim
theorem KH(s f d b ke g:Int)(a:Option Addr)(n cap:Nat)(F W K:Nat->Int)(w:World)(h:TS w a n F W K):
  Calls prog 125 #[.agg #[I s,I f,I d,I b,I ke,I g,.slice a n cap]] w (Rz w (.bool (xR s f d b ke g n F W K))):=by
 cases t:inB s 1 4
 ·have c:Hid (xR s f d b ke g n F W K=false):=by show _=_;simp[xR,t]
  go_in;go_wp2_with(go_at_call 92;refine(xT _ _ _ _).mono ?_;rintro e w' ⟨rfl,rfl⟩);go_ret;exact⟨zQ c.out.symm,(Q _ _).alloc (J _) _⟩
 cases u:inB f 1 100
 ·have c:Hid (xR s f d b ke g n F W K=false):=by show _=_;simp[xR,u]
  go_in;go_wp2_with(go_at_call 92;refine(xT _ _ _ _).mono ?_;rintro e w' ⟨rfl,rfl⟩);go_ret;exact⟨zQ c.out.symm,(Q _ _).alloc (J _) _⟩
 cases v:inB d 0 100
 ·have c:Hid (xR s f d b ke g n F W K=false):=by show _=_;simp[xR,v]
  go_in;go_wp2_with(go_at_call 92;refine(xT _ _ _ _).mono ?_;rintro e w' ⟨rfl,rfl⟩);go_ret;exact⟨zQ c.out.symm,(Q _ _).alloc (J _) _⟩
 cases l:inB b 1 50
 ·have c:Hid (xR s f d b ke g n F W K=false):=by show _=_;simp[xR,l]
  go_in;go_wp2_with(go_at_call 92;refine(xT _ _ _ _).mono ?_;rintro e w' ⟨rfl,rfl⟩);go_ret;exact⟨zQ c.out.symm,(Q _ _).alloc (J _) _⟩
 cases x:inB ke 0 1000
 ·have c:Hid (xR s f d b ke g n F W K=false):=by show _=_;simp[xR,x]
  go_in;go_wp2_with(go_at_call 92;refine(xT _ _ _ _).mono ?_;rintro e w' ⟨rfl,rfl⟩);go_ret;exact⟨zQ c.out.symm,(Q _ _).alloc (J _) _⟩
 cases y:inB g 1 400
 ·have c:Hid (xR s f d b ke g n F W K=false):=by show _=_;simp[xR,y]
  go_in;go_wp2_with(go_at_call 92;refine(xT _ _ _ _).mono ?_;rintro e w' ⟨rfl,rfl⟩);go_ret;exact⟨zQ c.out.symm,(Q _ _).alloc (J _) _⟩
 cases m:inB (n:Int) 1 4
 ·have c:Hid (xR s f d b ke g n F W K=false):=by show _=_;simp[xR,m]
  go_in;go_wp2_with(go_at_call 92;refine(xT _ _ _ _).mono ?_;rintro e w' ⟨rfl,rfl⟩);go_ret;exact⟨zQ c.out.symm,(Q _ _).alloc (J _) _⟩
 have hn:n<=4:=by rw[qZ]at m;omega
 have r:1<=b/\b<=1000:=by rw[qZ]at l;omega
 have o:TS (w.alloc (.cells #[I s,I f,I d,I b,I ke,I g,.slice a n cap] 27)) a n F W K:=h.below ((Q _ _).alloc (J _) _);cases k:vK n (Z7 n F W K)
 ·have c:Hid (xR s f d b ke g n F W K=false):=by show _=_;simp[xR,k]
  go_in;go_wp2_with(first|(go_at_call 92;refine(xT _ _ _ _).mono ?_;rintro e w' ⟨rfl,rfl⟩)|(go_at_call 195;refine(VO _ n cap F W K hn _ o).mono ?_;rintro e w' ⟨rfl,j⟩));go_ret;exact⟨zQ c.out.symm,((Q _ _).alloc (J _) _).trans (j.mono (by simp))⟩
 ·have z:∀i,i<n-> -1<=F i/\F i<n:=fun i q=>by
   have:=(vq _ _).1 k i q;simp only[Z7,Bool.and_eq_true,qZ]at this;omega
  have A:∀i,i<n->1<=W i/\W i<=1000:=fun i q=>by
   have:=(vq _ _).1 k i q;simp only[Z7,Bool.and_eq_true,qZ]at this;omega
  have HR:Hid (xR s f d b ke g n F W K=vK n (zdg n b F W)):=by show _=_;simp[xR,t,u,v,l,x,y,m,k]
  go_in;go_wp2_with(first|(go_at_call 92;refine(xT _ _ _ _).mono ?_;rintro e w' ⟨rfl,rfl⟩)|(go_at_call 195;refine(VO _ n cap F W K hn _ o).mono ?_;rintro e w' ⟨rfl,j⟩;obtain⟨_,B,C,D,G,H,L,M⟩:=(CF.made w 27 (0,0) s f d b ke g a n cap).below j (by simp))|(go_at_call 196;refine(znz s f d b ke g _ n cap F W K hn z r A _ (o.below j)).mono ?_;rintro e w2 ⟨rfl,p⟩));go_ret;exact⟨zQ HR.out.symm,(((Q _ _).alloc (J _) _).trans (j.mono (by simp))).trans (p.mono (by have:=j.size;simp at this;omega))⟩
theorem Qi(s c b f ke d:Int)(a:Option Addr)(n cap:Nat)(F W K:Nat->Int)(w:World)(h:TS w a n F W K):
  Calls prog 65 #[.agg #[I s,I c,I b,I f,I ke,I d,.slice a n cap]] w (Rz w (I (Q6 (xR s c b f ke d n F W K)))):=by
 have g:TS (w.alloc (.cells #[I s,I c,I b,I f,I ke,I d,.slice a n cap] 27)) a n F W K:=h.below ((Q _ _).alloc (J _) _);cases e:xR s c b f ke d n F W K;all_goals
  go_in
  go_wp2_with(go_at_call 125;refine(KH s c b f ke d _ n cap F W K _ g).mono ?_;rintro e w' ⟨rfl,i⟩)
  go_ret
  exact⟨rfl,((Q _ _).alloc (J _) _).trans (i.mono (by simp))⟩
theorem zaj(x:Int)(w:World):Calls prog 135 #[I x] w fun e w'=>e=.returned (I x)/\w'=w:=by
 go_in;go_wp2;go_ret;exact⟨rfl,rfl⟩
