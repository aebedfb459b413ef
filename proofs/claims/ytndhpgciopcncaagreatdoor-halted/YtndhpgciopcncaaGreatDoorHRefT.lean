import Derived.Test.YtndhpgciopcncaaGreatDoorHBrd2
open Option renaming some → J
open Option renaming none → E
open Nat renaming le_refl → Q
open Go.RowKit.Below renaming refl → Z
set_option linter.unusedVariables false
set_option maxRecDepth 100000
set_option maxHeartbeats 4000000
open Go.Proofs.Tryz
namespace Go.Proofs.YtndhpgciopcncaaGreatDoor
open Go.ChangeMaps (setBlock)
open Go.RowKit Go.Maps Go.Shelf
variable {N m n:Nat} {ex:Nat->Prop} {o o':Option Tsk} {ov:Value} {A B W X w:World}
def RM.pressR(m:RM)(x:Tk):Int:=m.due x-(m.now-x.se).tdiv 4
def RM.aheadB(m:RM)(c:Bool)(a b:Tk):Bool:=if c=true/\a.kind≠b.kind then decide (a.kind=2)else if m.pressR a≠m.pressR b then decide (m.pressR a<m.pressR b)else Qb a b
theorem znE(w:World)(o:Obj)(c:Cf)(tv:Value)(ep:Int):
  zC ((((w.alloc o).alloc (.map #[] 0)).alloc (.map #[] 0)).alloc (.cells #[I c.s,I c.le,I c.la,I c.wi,I c.ke,I c.qu,tv,I ep,I 0,.map (J (w.1.size+1)),.map (J (w.1.size+1+1))] 171)) (w.1.size+1+1+1) c tv ep 0 (w.1.size+1) (w.1.size+1+1) [] []:=by
 have a:=zM w o;have z2:=zM (w.alloc o) (.map #[] 0);have z3:=zM ((w.alloc o).alloc (.map #[] 0)) (.map #[] 0);refine⟨?_,?_,?_,by omega⟩
 ·have h:=zq (((w.alloc o).alloc (.map #[] 0)).alloc (.map #[] 0)) (.cells #[I c.s,I c.le,I c.la,I c.wi,I c.ke,I c.qu,tv,I ep,I 0,.map (J (w.1.size+1)),.map (J (w.1.size+1+1))] 171);rw[z3,z2,a]at h;exact h
 ·have h:=xi.made (M:=qi) (w.alloc o);rw[a]at h;exact(h.later ((Z _ _).alloc (Q _) _)).later ((Z _ _).alloc (Q _) _)
 ·have h:=xi.made (M:=xJ) ((w.alloc o).alloc (.map #[] 0));rw[z2,a]at h;exact h.later ((Z _ _).alloc (Q _) _)
theorem zkD(c:Cf)(a:Option Addr)(cap:Nat)(ep:Int)(w:World):
  Calls prog 69 #[(cZz c a cap),I ep] w fun e w'=>∃b tb qb,e=.returned (O b)/\w.1.size<=b/\w.1.size<=tb/\w.1.size<=qb/\zC w' b c (.slice a c.n cap) ep 0 tb qb [] []/\Below w.1.size w w':=by
 have h:∀W:World,(Instr.makeMap 169 E).run prog W=.ok (.map (J W.1.size)) (W.alloc (.map #[] 0)):=fun W=>by kernel_rfl
 have m2:∀W:World,(Instr.makeMap 168 E).run prog W=.ok (.map (J W.1.size)) (W.alloc (.map #[] 0)):=fun W=>by kernel_rfl
 go_enter func69,ntmps69;go_wp2_with fail;go_ret;refine⟨w.1.size+1+1+1,w.1.size+1,w.1.size+1+1,rfl,by omega,by omega,by omega,znE w _ c _ ep,?_⟩;have d:Below w.1.size w (w.alloc (.cells (aZz c a cap) 89)):=(Z _ _).alloc (Q _) _;have f:=d.alloc d.size (.map #[] 0);have g:=f.alloc f.size (.map #[] 0);exact g.alloc g.size _
attribute [local go_sem] Oper.semAt_some
def Yr{α:Type}(a:α->α->Int)(o:Option α)(x:α):Option α:=match o with
 |none=>J x
 |some f=>if a x f<0 then J x else J f
def Zq{α:Type}(a:α->α->Int)(l:List α):Option α:=l.foldl (Yr a) E
theorem zfC{α:Type}(a:α->α->Int)(l:List α)(x:α):Zq a (l++[x])=Yr a (Zq a l) x:=by simp[Zq]
theorem Qt{α:Type}(a:α->α->Int):∀(l:List α) (f:α),∃g,l.foldl (Yr a) (J f)=J g/\(g=f\/g∈l)
 |[],f=>⟨f,rfl,.inl rfl⟩
 |x::l,f=>by
  simp only[List.foldl_cons];by_cases h:a x f<0
  ·obtain⟨g,c,b⟩:=Qt a l x;refine⟨g,by simp only[Yr,if_pos h];exact c,.inr ?_⟩;rcases b with rfl|b<;>simp[*]
  ·obtain⟨g,c,b⟩:=Qt a l f;refine⟨g,by simp only[Yr,if_neg h];exact c,?_⟩;rcases b with rfl|b
   ·exact .inl rfl
   ·exact .inr (by simp[b])
theorem zhY{α:Type}(a:α->α->Int):∀l:List α,(l=[]/\Zq a l=E)\/∃g∈l,Zq a l=J g
 |[]=> .inl ⟨rfl,rfl⟩
 |x::l=> .inr (by
  obtain⟨g,c,b⟩:=Qt a l x;refine⟨g,?_,c⟩;rcases b with rfl|b<;>simp[*])
def ZI(o:Option Tsk):Obj:=match o with
 |none=> .cells #[.nilIface,I 0,I 0,I 0] 177 (0,0)
 |some x=> .cells (tZz x) 177 (0,0)
structure FT(ov:Value)(w:World)(o:Option Tsk)(W:World):Prop where
 i1:W.1[w.1.size]?=J (.cells #[ov] 182 (0,0))
 i2:W.1[w.1.size+1]?=J (ZI E)
 i3:W.1[w.1.size+2]?=J (ZI o)
 i4:W.1[w.1.size+3]?=J (.cells #[.bool o.isSome] 4 (0,0))
 i5:Below w.1.size w W
theorem FT.own{row:Option Nat}(f:w.1.size<=N)(c:FT ov w o A)(a:A.grownBy B row)(b:∀r,row=J r->N<=r/\∃o:Obj,A.1[r]?=J o/\o.isCells=false):FT ov w o B:=by
 refine⟨zv c.i1 a (fun r e=>(b r e).2),zv (by exact c.i2) a (fun r e=>(b r e).2),?_,zv c.i4 a (fun r e=>(b r e).2),c.i5.grown a c.i5.size (fun k e=>by have:=(b k e).1;omega)⟩;have d:=c.i3;cases o with
 |none=>exact zv d a (fun r e=>(b r e).2)
 |some x=>exact zv d a (fun r e=>(b r e).2)
theorem FT.later(h:FT ov w o A)(a:Below A.1.size A B):FT ov w o B:=
 ⟨(a.block _ (zd h.i1)).trans h.i1,(a.block _ (zd h.i2)).trans h.i2,(a.block _ (zd h.i3)).trans h.i3,(a.block _ (zd h.i4)).trans h.i4,h.i5.trans (a.mono h.i5.size)⟩
theorem zoa(h:FT ov w o W)(b:o'=o)(a:Below W.1.size W X):KeepsFrom N W X/\KX ex n m W X/\FT ov w o' X:=by
 subst b;exact⟨zo a,KX.of_below a,h.later a⟩
theorem zmO{x:Tsk}(hn:n<=w.1.size)(C:w.1.size+4<=m)(h:FT ov w o W)(j:o'=J x)(g:Below W.1.size W X):
  KeepsFrom N W (((((X.setCell (U (w.1.size+2) 0) (jZz x)).setCell (U (w.1.size+2) 1) (I x.se)).setCell (U (w.1.size+2) 2) (I x.ti)).setCell (U (w.1.size+2) 3) (I x.rest)).setCell (U (w.1.size+3) 0) (.bool true))/\KX ex n m W (((((X.setCell (U (w.1.size+2) 0) (jZz x)).setCell (U (w.1.size+2) 1) (I x.se)).setCell (U (w.1.size+2) 2) (I x.ti)).setCell (U (w.1.size+2) 3) (I x.rest)).setCell (U (w.1.size+3) 0) (.bool true))/\FT ov w o' (((((X.setCell (U (w.1.size+2) 0) (jZz x)).setCell (U (w.1.size+2) 1) (I x.se)).setCell (U (w.1.size+2) 2) (I x.ti)).setCell (U (w.1.size+2) 3) (I x.rest)).setCell (U (w.1.size+3) 0) (.bool true)):=by
 subst j;have d:=h.later g;have c:∃p q r s,X.1[w.1.size+2]?=J (.cells #[p,q,r,s] 177 (0,0)):=by
  have:=d.i3;cases o with
  |none=>exact⟨_,_,_,_,this⟩
  |some y=>exact⟨_,_,_,_,this⟩
 obtain⟨p,q,r,s,c⟩:=c;have l:=KT c (jZz x) (I x.se) (I x.ti) (I x.rest);have b:∀k,k≠w.1.size+2->((((X.setCell (U (w.1.size+2) 0) (jZz x)).setCell (U (w.1.size+2) 1) (I x.se)).setCell (U (w.1.size+2) 2) (I x.ti)).setCell (U (w.1.size+2) 3) (I x.rest)).1[k]?=X.1[k]?:=fun k a=>by
  rw[zI a,zI a,zI a,zI a]
 have t:=xD (i:=0) ((b (w.1.size+3) (by omega)).trans d.i4) (.bool true);have v:KeepsOthers W (((((X.setCell (U (w.1.size+2) 0) (jZz x)).setCell (U (w.1.size+2) 1) (I x.se)).setCell (U (w.1.size+2) 2) (I x.ti)).setCell (U (w.1.size+2) 3) (I x.rest)).setCell (U (w.1.size+3) 0) (.bool true)):=(((((yF g).trans (KeepsOthers.setCell _ _ _)).trans (KeepsOthers.setCell _ _ _)).trans (KeepsOthers.setCell _ _ _)).trans (KeepsOthers.setCell _ _ _)).trans (KeepsOthers.setCell _ _ _);have k2:Below w.1.size W (((((X.setCell (U (w.1.size+2) 0) (jZz x)).setCell (U (w.1.size+2) 1) (I x.se)).setCell (U (w.1.size+2) 2) (I x.ti)).setCell (U (w.1.size+2) 3) (I x.rest)).setCell (U (w.1.size+3) 0) (.bool true)):=(((((g.mono h.i5.size).setCell (p:=(U (w.1.size+2) 0)) (show w.1.size<=w.1.size+2 by omega) _).setCell (p:=(U (w.1.size+2) 1)) (show w.1.size<=w.1.size+2 by omega) _).setCell (p:=(U (w.1.size+2) 2)) (show w.1.size<=w.1.size+2 by omega) _).setCell (p:=(U (w.1.size+2) 3)) (show w.1.size<=w.1.size+2 by omega) _).setCell (p:=(U (w.1.size+3) 0)) (show w.1.size<=w.1.size+3 by omega) _;have z:KX ex n m W (((((X.setCell (U (w.1.size+2) 0) (jZz x)).setCell (U (w.1.size+2) 1) (I x.se)).setCell (U (w.1.size+2) 2) (I x.ti)).setCell (U (w.1.size+2) 3) (I x.rest)).setCell (U (w.1.size+3) 0) (.bool true)):=by
  refine(KX.of_below g).trans ?_;refine⟨?_,fun k o' D a j=>?_,fun k o' u _ a=>?_⟩
  ·refine zi.mono (f:=fun k=>k=w.1.size+2\/k=w.1.size+3) ?_ (fun k _ e=> .inr (by omega));exact zg (zg (zg (zg (zg (zi.refl _ _) (.inl rfl)) (.inl rfl)) (.inl rfl)) (.inl rfl)) (.inr rfl)
  ·have A:k≠w.1.size+2:=fun e=> (by rw[e,c]at a;cases a;cases j);have B:k≠w.1.size+3:=fun e=> (by rw[e,d.i4]at a;cases a;cases j);rw[zI B,b k A];exact a
  ·rw[zI (by omega),b k (by omega)];exact a
 refine⟨v.from _,z,⟨?_,?_,?_,t,h.i5.trans k2⟩⟩
 ·rw[zI (by omega),b _ (by omega)];exact d.i1
 ·rw[zI (by omega),b _ (by omega)];exact d.i2
 ·rw[zI (by omega)];exact l
theorem zfB{α:Type}(a:α->Tsk)(gf:Nat)(lb:Array Value)(eg:∀args w,(callFunc gf args).run prog w=.ok (.enter gf args) w)(of:Nat)(T:Array Value)(eo:∀args w,(callFunc of args).run prog w=.ok (.enter of args) w){S:List α->Prop}(i:α->α->Int)(w:World)(hn:n<=w.1.size)(ab:∀(x y:α) (W:World),Below w.1.size w W->Calls prog of (#[.agg #[.iface (a x).jt (.agg #[I (a x).s.t,I (a x).s.sr,I (a x).s.wn]),I (a x).se,I (a x).ti,I (a x).rest],.agg #[.iface (a y).jt (.agg #[I (a y).s.t,I (a y).s.sr,I (a y).s.wn]),I (a y).se,I (a y).ti,I (a y).rest]]++T) W fun e W'=>e=.returned (I (i x y))/\Below W.1.size W W')(a4:jx ex n prog gf lb (fun x:α=>#[.agg #[.iface (a x).jt (.agg #[I (a x).s.t,I (a x).s.sr,I (a x).s.wn]),I (a x).se,I (a x).ti,I (a x).rest]]) S N w):
  Calls prog 100 #[.func (.func gf) #[] lb,.func (.func of) #[] T] w fun e w'=>∃xs,S xs/\e=.returned (.tuple #[Vo ((Zq i xs).map a),.bool (Zq i xs).isSome])/\Below w.1.size w w':=by
 have a8:=ze a4;have ad:=ze ab;have ac:=ze eg;have a7:=ze eo;obtain⟨b1,b2,b3,a3,z⟩:=Jv w (.cells #[(.func (.func of) #[] T)] 182) (ZI E) (ZI E);have H:Hid (FT (.func (.func of) #[] T) w E ((((w.alloc (.cells #[(.func (.func of) #[] T)] 182)).alloc (ZI E)).alloc (ZI E)).alloc zgT)):=
  ⟨(Below.heap_alloc _ _ _ (by rw[z];omega)).trans b1,(Below.heap_alloc _ _ _ (by rw[z];omega)).trans b2,(Below.heap_alloc _ _ _ (by rw[z];omega)).trans b3,by have:=zq (((w.alloc (.cells #[(.func (.func of) #[] T)] 182)).alloc (ZI E)).alloc (ZI E)) zgT;rw[z]at this;exact this,a3.alloc (by rw[z];omega) _⟩
 have BZ:Hid (((((w.alloc (.cells #[(.func (.func of) #[] T)] 182)).alloc (ZI E)).alloc (ZI E)).alloc zgT).1.size=w.1.size+4):=by show _=_;rw[zM,z]
 clear a4 ab eg eo b1 b2 b3 a3 z;unfold ZI at H BZ;dsimp only at H BZ;refine(callsIn_wide (n:=7)).1 ?_;refine callsIn_of_wp_marks func100 rfl trivial ?_ rfl;simp only[ntmps100,sZz,Nat.reduceAdd,Nat.reduceSub];gi_wp2;obtain⟨W0,aa⟩:∃W0,((((w.alloc (.cells #[(.func (.func of) #[] T)] 182)).alloc (.cells #[.nilIface,I 0,I 0,I 0] 177)).alloc (.cells #[.nilIface,I 0,I 0,I 0] 177)).alloc zgT)=W0:=⟨_,rfl⟩;rw[aa]at H BZ ⊢;clear aa;have hz:W0.1.size=w.1.size+4:=ud BZ;refine yg (F:=Fence.wide) (n:=7) rfl (by omega) (gf:=gf) (lb:=lb) rfl trivial (ud ac) (ud a8 (w.1.size+6) (by omega)) (by omega) (fun h k=>h.trans k) (fun W o o' h hc hw=>KX.putObj o' (by omega) (by omega) h hw) (ud H).i5 (fun _=>rfl)
  (fun q W=>FT (.func (.func of) #[] T) w ((Zq i q).map a) W)
  (fun _ _ _=>False)
  (fun s A B row hs hg hr=>FT.own (by omega) hs hg hr)
  (fun _ _ _ _ _ hs _ _=>hs)
  (ud H)
  (fun x a' W=>∃G,w.1.size+4<=G/\W.1[G]?=J (.cells #[.iface (a x).jt (.agg #[I (a x).s.t,I (a x).s.sr,I (a x).s.wn]),I (a x).se,I (a x).ti,I (a x).rest] 177 (0,0))/\a'={tmps:=#[.func (.func gf) #[] lb,.func (.func of) #[] T,undef,(O w.1.size),(O (w.1.size+1)),.bool false,(O (w.1.size+2)),(O (w.1.size+3)),(O G),.func (.func gf) #[] lb,.agg #[.iface (a x).jt (.agg #[I (a x).s.t,I (a x).s.sr,I (a x).s.wn]),I (a x).se,I (a x).ti,I (a x).rest],undef,undef,undef,undef,undef,undef,undef,undef,undef,undef,undef,undef],defers:=[]})
  (fun x a' s A B row hs hg hr=>by
   obtain⟨G,h1,h2,h3⟩:=hs;exact⟨G,h1,zv h2 hg (fun r e=>(hr r e).2),h3⟩) ?assign ?body ?done ?stop
 case assign=>
  rintro l q x W K b hK;have ag:=b.i5.size;have am:=zd b.i4;have HK:=ze hK;have u:=ze b;clear hK b;gi_wp2;have a6:=(Z W.1.size W).alloc (Q _) (.cells #[.iface (a x).jt (.agg #[I (a x).s.t,I (a x).s.sr,I (a x).s.wn]),I (a x).se,I (a x).ti,I (a x).rest] 177);refine ud HK _ _ (zo a6) (KX.of_below a6) ((ud u).later a6) ⟨W.1.size,by omega,zq _ _,rfl⟩
 case body=>
  rintro l q x a' W hl ⟨r,hr⟩ b ⟨G,al,hx,rfl⟩ an;have ag:=b.i5.size;have a0:=zd hx;have af:=zd b.i4;obtain⟨c1,-⟩:=zc b.i1;obtain⟨x0,x1,x2,x3,-⟩:=zc hx;have ai:¬G=w.1.size+2:=by omega
  have aj:¬G=w.1.size+3:=by omega
  have u:=ze b;have HX:=ze hx;have v:=zfC i q x;cases hF:Zq i q with
  |none=>
   rw[hF]at b u v;obtain⟨g0,g1,g2,g3,-⟩:=zc b.i3;have a9:=fun j=>zw (show W.1[w.1.size+2]?=J (.cells #[.nilIface,I 0,I 0,I 0] 177 (0,0))from b.i3) j;have ae:=fun j=>zw b.i4 j;obtain⟨c4,-⟩:=zc b.i4;have L:Hid ((Zq i (q++[x])).map a=J (a x)):=(by show _=_;rw[v];rfl);clear b hx hF v;generalize a x=X at*;gi_wp2;refine⟨fun _ h=>(by cases h),?_⟩;gi_wp2;all_goals(try go_bits)
   exact zmO hn (by omega) (ud u) (ud L) (Z _ _)
  |some f=>
   rw[hF]at b u v;simp only[Option.map_some]at b u;have a1:W.1[w.1.size+2]?=J (.cells #[.iface (a f).jt (.agg #[I (a f).s.t,I (a f).s.sr,I (a f).s.wn]),I (a f).se,I (a f).ti,I (a f).rest] 177 (0,0)):=b.i3;obtain⟨g0,g1,g2,g3,-⟩:=zc a1;obtain⟨c4,-⟩:=zc b.i4;have HC:=ze (ud ad x f W b.i5);have a2:=zd b.i3;have ah:=ze (ud a7);have ak:=ud a7;clear b hx hF;by_cases ho:i x f<0
   ·have L:Hid ((Zq i (q++[x])).map a=J (a x)):=(by show _=_;rw[v];simp[Yr,ho]);clear v;generalize i x f=O9 at*;generalize a x=X at*;generalize a f=Y at*;gi_wp2;refine⟨trivial,(CallsIn.inRound l (callsIn_wide.2 (ud HC))).mono ?_⟩;rintro e w' ⟨rfl,d⟩;have d0:=(d.cell (p:=(U G 0)) a0).trans x0;have d1:=(d.cell (p:=(U G 1)) a0).trans x1;have d2:=(d.cell (p:=(U G 2)) a0).trans x2;have d3:=(d.cell (p:=(U G 3)) a0).trans x3;have e0:=(d.cell (p:=(U (w.1.size+2) 0)) a2).trans g0;have e1:=(d.cell (p:=(U (w.1.size+2) 1)) a2).trans g1;have e2:=(d.cell (p:=(U (w.1.size+2) 2)) a2).trans g2;have e3:=(d.cell (p:=(U (w.1.size+2) 3)) a2).trans g3;have e4:=(d.cell (p:=(U (w.1.size+3) 0)) af).trans c4;have a9:=fun j=>zw (show w'.1[w.1.size+2]?=J (.cells (tZz Y) 177 (0,0))from((ud u).later d).i3) j;have ae:=fun j=>zw ((ud u).later d).i4 j;have a5:=ze d;clear d;gi_wp2;all_goals(try go_bits)
    exact zmO hn (by omega) (ud u) (ud L) (ud a5)
   ·have L:Hid ((Zq i (q++[x])).map a=J (a f)):=(by show _=_;rw[v];simp[Yr,ho]);have ao:decide (i x f<0)=false:=(by simpa using ho);clear v;generalize i x f=O9 at*;generalize a x=X at*;generalize a f=Y at*;gi_wp2;refine⟨trivial,(CallsIn.inRound l (callsIn_wide.2 (ud HC))).mono ?_⟩;rintro e w' ⟨rfl,d⟩;have a5:=ze d;clear d;gi_wp2;all_goals(try go_bits)
    exact zoa (ud u) (ud L) (ud a5)
 case done=>
  rintro D xs W hD hS b hK;have u:=ze b;have HK:=ze hK;have HS:=ze hS;have m:D≠w.1.size+1:=by omega
  obtain⟨r0,r1,r2,r3,-⟩:=zc b.i2;have a9:=fun j=>zw (show W.1[w.1.size+1]?=J (.cells #[.nilIface,I 0,I 0,I 0] 177 (0,0))from b.i2) j;cases C:Zq i xs with
  |none=>
   rw[C]at b u;obtain⟨g0,g1,g2,g3,-⟩:=zc b.i3;obtain⟨c4,-⟩:=zc b.i4;have V:=ze C;clear b hK hS C;gi_wp2
   gi_region
   gi_wp2;have R:=zjv (show W.1[w.1.size+1]?=J (.cells #[.nilIface,I 0,I 0,I 0] 177 (0,0))from(ud u).i2) .nilIface (I 0) (I 0) (I 0);have M:(((((W.setCell (U (w.1.size+1) 0) .nilIface).setCell (U (w.1.size+1) 1) (I 0)).setCell (U (w.1.size+1) 2) (I 0)).setCell (U (w.1.size+1) 3) (I 0)).drew).1[D]?=J (.deferred (J [])):=by
    show((((W.setCell (U (w.1.size+1) 0) .nilIface).setCell (U (w.1.size+1) 1) (I 0)).setCell (U (w.1.size+1) 2) (I 0)).setCell (U (w.1.size+1) 3) (I 0)).1[D]?=_;rw[zI m,zI m,zI m,zI m];exact ud HK
   have P:=((ud u).i5).trans (YU (w:=W) (B:=w.1.size) (g:=w.1.size+1) (Nat.le_succ _) .nilIface (I 0) (I 0) (I 0));refine⟨by simp,.inl ⟨_,_,rfl,run_takeDeferred M,?_⟩⟩;refine⟨_,xa results100 _ _ (w.1.size+1) _ _ _ _ _ rfl rfl ((World.putObj_heap_other (fun e=>m e.symm)).trans R) underlying177 rfl (by kernel_rfl),xs,ud HS,?_,xE P (Q _) (by omega) M _⟩;rw[ud V];rfl
  |some f=>
   rw[C]at b u;simp only[Option.map_some]at b u;have a1:W.1[w.1.size+2]?=J (.cells #[.iface (a f).jt (.agg #[I (a f).s.t,I (a f).s.sr,I (a f).s.wn]),I (a f).se,I (a f).ti,I (a f).rest] 177 (0,0)):=b.i3;obtain⟨g0,g1,g2,g3,-⟩:=zc a1;obtain⟨c4,-⟩:=zc b.i4;have V:Hid ((Zq i xs).map a=J (a f)/\(Zq i xs).isSome=true):=(by show _/\_;rw[C];exact⟨rfl,rfl⟩);clear b hK hS C a1;generalize a f=y at*;gi_wp2
   gi_region
   gi_wp2;have R:=zjv (show W.1[w.1.size+1]?=J (.cells #[.nilIface,I 0,I 0,I 0] 177 (0,0))from(ud u).i2) (jZz y) (I y.se) (I y.ti) (I y.rest);have M:((((W.setCell (U (w.1.size+1) 0) (jZz y)).setCell (U (w.1.size+1) 1) (I y.se)).setCell (U (w.1.size+1) 2) (I y.ti)).setCell (U (w.1.size+1) 3) (I y.rest)).drew.1[D]?=J (.deferred (J [])):=by
    show((((W.setCell (U (w.1.size+1) 0) (jZz y)).setCell (U (w.1.size+1) 1) (I y.se)).setCell (U (w.1.size+1) 2) (I y.ti)).setCell (U (w.1.size+1) 3) (I y.rest)).1[D]?=_;rw[zI m,zI m,zI m,zI m];exact ud HK
   have P:=((ud u).i5).trans (YU (w:=W) (B:=w.1.size) (g:=w.1.size+1) (Nat.le_succ _) (jZz y) (I y.se) (I y.ti) (I y.rest));refine⟨by simp,.inl ⟨_,_,rfl,run_takeDeferred M,?_⟩⟩;refine⟨_,xa results100 _ _ (w.1.size+1) _ _ _ _ _ rfl rfl ((World.putObj_heap_other (fun e=>m e.symm)).trans R) underlying177 rfl (by kernel_rfl),xs,ud HS,?_,xE P (Q _) (by omega) M _⟩;rw[(ud V).1,(ud V).2];rfl
 case stop=>
  rintro D c q W _ _ h _;exact h.elim
end Go.Proofs.YtndhpgciopcncaaGreatDoor
