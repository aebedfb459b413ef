import Derived.Test.YtndhpgciopcncaaGreatDoorUBrd2
open Go.Value renaming int → I
open Go.IntKind renaming i64 → J
open Option renaming none → E
open Option renaming some → Q
open Nat renaming le_refl → U
open Go.RowKit.Below renaming refl → Z
set_option linter.unusedVariables false
set_option maxRecDepth 100000
set_option maxHeartbeats 4000000
open Go.Proofs.Tryz
namespace Go.Proofs.YtndhpgciopcncaaGreatDoor
open Go.ChangeMaps (setBlock)
open Go.RowKit Go.Maps Go.Shelf
theorem zgJ(w:World)(o:Obj)(c:Cf)(tv:Value)(ep:Int):
  zA ((((w.alloc o).alloc (.map #[] 0)).alloc (.map #[] 0)).alloc (.cells #[I J c.s,I J c.le,I J c.la,I J c.wi,I J c.ke,I J c.qu,tv,I J ep,I J 0,.map (Q (w.1.size+1)),.map (Q (w.1.size+1+1))] 171)) (w.1.size+1+1+1) c tv ep 0 (w.1.size+1) (w.1.size+1+1) [] []:=by
 have a:=zL w o
 have b:=zL (w.alloc o) (.map #[] 0)
 have z3:=zL ((w.alloc o).alloc (.map #[] 0)) (.map #[] 0)
 refine⟨?_,?_,?_,by omega⟩
 ·have h:=zm (((w.alloc o).alloc (.map #[] 0)).alloc (.map #[] 0)) (.cells #[I J c.s,I J c.le,I J c.la,I J c.wi,I J c.ke,I J c.qu,tv,I J ep,I J 0,.map (Q (w.1.size+1)),.map (Q (w.1.size+1+1))] 171)
  rw[z3,b,a]at h
  exact h
 ·have h:=zV.made (M:=xI) (w.alloc o)
  rw[a]at h
  exact(h.later ((Z _ _).alloc (U _) _)).later ((Z _ _).alloc (U _) _)
 ·have h:=zV.made (M:=xx) ((w.alloc o).alloc (.map #[] 0))
  rw[b,a]at h
  exact h.later ((Z _ _).alloc (U _) _)
theorem zeA(c:Cf)(a:Option Addr)(cap:Nat)(ep:Int)(w:World):
  Calls prog 69 #[.agg #[I J c.s,I J c.le,I J c.la,I J c.wi,I J c.ke,I J c.qu,.slice a c.n cap],I J ep] w fun e w'=>∃b tb qb,e=.returned (.pointer (Q ⟨b,0,E⟩))/\w.1.size<=b/\w.1.size<=tb/\w.1.size<=qb/\zA w' b c (.slice a c.n cap) ep 0 tb qb [] []/\Below w.1.size w w':=by
 have m1:∀W:World,(Instr.makeMap 169 E).run prog W=.ok (.map (Q W.1.size)) (W.alloc (.map #[] 0)):=fun W=>by kernel_rfl
 have m2:∀W:World,(Instr.makeMap 168 E).run prog W=.ok (.map (Q W.1.size)) (W.alloc (.map #[] 0)):=fun W=>by kernel_rfl
 go_enter func69,ntmps69
 go_wp2_with fail
 go_ret
 refine⟨w.1.size+1+1+1,w.1.size+1,w.1.size+1+1,rfl,by omega,by omega,by omega,zgJ w _ c _ ep,?_⟩
 have d:Below w.1.size w (w.alloc (.cells #[I J c.s,I J c.le,I J c.la,I J c.wi,I J c.ke,I J c.qu,.slice a c.n cap] 89)):=(Z _ _).alloc (U _) _
 have f:=d.alloc d.size (.map #[] 0)
 have g:=f.alloc f.size (.map #[] 0)
 exact g.alloc g.size _
attribute [local go_sem] Oper.semAt_some
def ZY{α:Type}(a:α->α->Int)(o:Option α)(x:α):Option α:=match o with
 |none=>Q x
 |some f=>if a x f<0 then Q x else Q f
def vM{α:Type}(a:α->α->Int)(l:List α):Option α:=l.foldl (ZY a) E
theorem zaE{α:Type}(a:α->α->Int)(l:List α)(x:α):vM a (l++[x])=ZY a (vM a l) x:=by simp[vM]
theorem Zp{α:Type}(a:α->α->Int):∀(l:List α) (f:α),∃g,l.foldl (ZY a) (Q f)=Q g/\(g=f\/g∈l)
 |[],f=>⟨f,rfl,.inl rfl⟩
 |x::l,f=>by
  simp only[List.foldl_cons]
  by_cases h:a x f<0
  ·obtain⟨g,c,b⟩:=Zp a l x
   refine⟨g,by simp only[ZY,if_pos h];exact c,.inr ?_⟩
   rcases b with rfl|b<;>simp[*]
  ·obtain⟨g,c,b⟩:=Zp a l f
   refine⟨g,by simp only[ZY,if_neg h];exact c,?_⟩
   rcases b with rfl|b
   ·exact .inl rfl
   ·exact .inr (by simp[b])
theorem zcz{α:Type}(a:α->α->Int):∀l:List α,(l=[]/\vM a l=E)\/∃g∈l,vM a l=Q g
 |[]=> .inl ⟨rfl,rfl⟩
 |x::l=> .inr (by
  obtain⟨g,c,b⟩:=Zp a l x
  refine⟨g,?_,c⟩
  rcases b with rfl|b<;>simp[*])
def vV(o:Option Tsk):Obj:=match o with
 |none=> .cells #[.nilIface,I J 0,I J 0,I J 0] 177 (0,0)
 |some x=> .cells #[.iface x.jt (.agg #[I J x.s.t,I J x.s.sr,I J x.s.wa]),I J x.se,I J x.ti,I J x.rest] 177 (0,0)
structure FT(ov:Value)(w:World)(o:Option Tsk)(W:World):Prop where
 i1:W.1[w.1.size]?=Q (.cells #[ov] 182 (0,0))
 i2:W.1[w.1.size+1]?=Q (vV E)
 i3:W.1[w.1.size+2]?=Q (vV o)
 i4:W.1[w.1.size+3]?=Q (.cells #[.bool o.isSome] 4 (0,0))
 i5:Below w.1.size w W
theorem FT.own{g:Value}{w A B:World}{o:Option Tsk}{d:Option Nat}{N:Nat}(h:w.1.size<=N)(c:FT g w o A)(a:A.grownBy B d)(b:∀r,d=Q r->N<=r/\∃o:Obj,A.1[r]?=Q o/\o.isCells=false):FT g w o B:=by
 refine⟨zt c.i1 a (fun r e=>(b r e).2),zt (by exact c.i2) a (fun r e=>(b r e).2),?_,zt c.i4 a (fun r e=>(b r e).2),c.i5.grown a c.i5.size (fun k e=>by have:=(b k e).1;omega)⟩
 have f:=c.i3
 cases o with
 |none=>exact zt f a (fun r e=>(b r e).2)
 |some x=>exact zt f a (fun r e=>(b r e).2)
theorem FT.later{b:Value}{w A B:World}{o:Option Tsk}(h:FT b w o A)(a:Below A.1.size A B):FT b w o B:=
 ⟨(a.block _ (za h.i1)).trans h.i1,(a.block _ (za h.i2)).trans h.i2,(a.block _ (za h.i3)).trans h.i3,(a.block _ (za h.i4)).trans h.i4,h.i5.trans (a.mono h.i5.size)⟩
theorem zhb{c:Value}{ex:Nat->Prop}{n m:Nat}{w W X:World}{o b:Option Tsk}{N:Nat}(h:FT c w o W)(d:b=o)(a:Below W.1.size W X):KeepsFrom N W X/\KX ex n m W X/\FT c w b X:=by
 subst d
 exact⟨zh a,KX.of_below a,h.later a⟩
theorem zgj{u:Value}{ex:Nat->Prop}{n m:Nat}{w W X:World}{o l:Option Tsk}{x:Tsk}{N:Nat}(hn:n<=w.1.size)(H:w.1.size+4<=m)(h:FT u w o W)(j:l=Q x)(g:Below W.1.size W X):
  KeepsFrom N W (((((X.setCell ⟨w.1.size+2,0,E⟩ (.iface x.jt (.agg #[I J x.s.t,I J x.s.sr,I J x.s.wa]))).setCell ⟨w.1.size+2,1,E⟩ (I J x.se)).setCell ⟨w.1.size+2,2,E⟩ (I J x.ti)).setCell ⟨w.1.size+2,3,E⟩ (I J x.rest)).setCell ⟨w.1.size+3,0,E⟩ (.bool true))/\KX ex n m W (((((X.setCell ⟨w.1.size+2,0,E⟩ (.iface x.jt (.agg #[I J x.s.t,I J x.s.sr,I J x.s.wa]))).setCell ⟨w.1.size+2,1,E⟩ (I J x.se)).setCell ⟨w.1.size+2,2,E⟩ (I J x.ti)).setCell ⟨w.1.size+2,3,E⟩ (I J x.rest)).setCell ⟨w.1.size+3,0,E⟩ (.bool true))/\FT u w l (((((X.setCell ⟨w.1.size+2,0,E⟩ (.iface x.jt (.agg #[I J x.s.t,I J x.s.sr,I J x.s.wa]))).setCell ⟨w.1.size+2,1,E⟩ (I J x.se)).setCell ⟨w.1.size+2,2,E⟩ (I J x.ti)).setCell ⟨w.1.size+2,3,E⟩ (I J x.rest)).setCell ⟨w.1.size+3,0,E⟩ (.bool true)):=by
 subst j
 have d:=h.later g
 have c:∃p q r s,X.1[w.1.size+2]?=Q (.cells #[p,q,r,s] 177 (0,0)):=by
  have:=d.i3
  cases o with
  |none=>exact⟨_,_,_,_,this⟩
  |some y=>exact⟨_,_,_,_,this⟩
 obtain⟨p,q,r,s,c⟩:=c
 have v:=YL c (.iface x.jt (.agg #[I J x.s.t,I J x.s.sr,I J x.s.wa])) (I J x.se) (I J x.ti) (I J x.rest)
 have b:∀k,k≠w.1.size+2->((((X.setCell ⟨w.1.size+2,0,E⟩ (.iface x.jt (.agg #[I J x.s.t,I J x.s.sr,I J x.s.wa]))).setCell ⟨w.1.size+2,1,E⟩ (I J x.se)).setCell ⟨w.1.size+2,2,E⟩ (I J x.ti)).setCell ⟨w.1.size+2,3,E⟩ (I J x.rest)).1[k]?=X.1[k]?:=fun k a=>by
  rw[zF a,zF a,zF a,zF a]
 have z:=xy (i:=0) ((b (w.1.size+3) (by omega)).trans d.i4) (.bool true)
 have B:KeepsOthers W (((((X.setCell ⟨w.1.size+2,0,E⟩ (.iface x.jt (.agg #[I J x.s.t,I J x.s.sr,I J x.s.wa]))).setCell ⟨w.1.size+2,1,E⟩ (I J x.se)).setCell ⟨w.1.size+2,2,E⟩ (I J x.ti)).setCell ⟨w.1.size+2,3,E⟩ (I J x.rest)).setCell ⟨w.1.size+3,0,E⟩ (.bool true)):=(((((qM g).trans (KeepsOthers.setCell _ _ _)).trans (KeepsOthers.setCell _ _ _)).trans (KeepsOthers.setCell _ _ _)).trans (KeepsOthers.setCell _ _ _)).trans (KeepsOthers.setCell _ _ _)
 have C:Below w.1.size W (((((X.setCell ⟨w.1.size+2,0,E⟩ (.iface x.jt (.agg #[I J x.s.t,I J x.s.sr,I J x.s.wa]))).setCell ⟨w.1.size+2,1,E⟩ (I J x.se)).setCell ⟨w.1.size+2,2,E⟩ (I J x.ti)).setCell ⟨w.1.size+2,3,E⟩ (I J x.rest)).setCell ⟨w.1.size+3,0,E⟩ (.bool true)):=(((((g.mono h.i5.size).setCell (p:=⟨w.1.size+2,0,E⟩) (show w.1.size<=w.1.size+2 by omega) _).setCell (p:=⟨w.1.size+2,1,E⟩) (show w.1.size<=w.1.size+2 by omega) _).setCell (p:=⟨w.1.size+2,2,E⟩) (show w.1.size<=w.1.size+2 by omega) _).setCell (p:=⟨w.1.size+2,3,E⟩) (show w.1.size<=w.1.size+2 by omega) _).setCell (p:=⟨w.1.size+3,0,E⟩) (show w.1.size<=w.1.size+3 by omega) _
 have D:KX ex n m W (((((X.setCell ⟨w.1.size+2,0,E⟩ (.iface x.jt (.agg #[I J x.s.t,I J x.s.sr,I J x.s.wa]))).setCell ⟨w.1.size+2,1,E⟩ (I J x.se)).setCell ⟨w.1.size+2,2,E⟩ (I J x.ti)).setCell ⟨w.1.size+2,3,E⟩ (I J x.rest)).setCell ⟨w.1.size+3,0,E⟩ (.bool true)):=by
  refine(KX.of_below g).trans ?_
  refine⟨?_,fun k l K a j=>?_,fun k l A _ a=>?_⟩
  ·refine zo.mono (f:=fun k=>k=w.1.size+2\/k=w.1.size+3) ?_ (fun k _ e=> .inr (by omega))
   exact zi (zi (zi (zi (zi (zo.refl _ _) (.inl rfl)) (.inl rfl)) (.inl rfl)) (.inl rfl)) (.inr rfl)
  ·have F:k≠w.1.size+2:=fun e=>by rw[e,c]at a;cases a;cases j
   have G:k≠w.1.size+3:=fun e=>by rw[e,d.i4]at a;cases a;cases j
   rw[zF G,b k F];exact a
  ·rw[zF (by omega),b k (by omega)];exact a
 refine⟨B.from _,D,⟨?_,?_,?_,z,h.i5.trans C⟩⟩
 ·rw[zF (by omega),b _ (by omega)];exact d.i1
 ·rw[zF (by omega),b _ (by omega)];exact d.i2
 ·rw[zF (by omega)];exact v
theorem zaD{α:Type}(a:α->Tsk)(gf:Nat)(lb:Array Value)(eg:∀args w,(callFunc gf args).run prog w=.ok (.enter gf args) w)(of:Nat)(T:Array Value)(eo:∀args w,(callFunc of args).run prog w=.ok (.enter of args) w){ex:Nat->Prop}{n N:Nat}{S:List α->Prop}(i:α->α->Int)(w:World)(hn:n<=w.1.size)
  (ab:∀(x y:α) (W:World),Below w.1.size w W->Calls prog of (#[.agg #[.iface (a x).jt (.agg #[I J (a x).s.t,I J (a x).s.sr,I J (a x).s.wa]),I J (a x).se,I J (a x).ti,I J (a x).rest],.agg #[.iface (a y).jt (.agg #[I J (a y).s.t,I J (a y).s.sr,I J (a y).s.wa]),I J (a y).se,I J (a y).ti,I J (a y).rest]]++T) W fun e W'=>e=.returned (I J (i x y))/\Below W.1.size W W')
  (a4:kN ex n prog gf lb (fun x:α=>#[.agg #[.iface (a x).jt (.agg #[I J (a x).s.t,I J (a x).s.sr,I J (a x).s.wa]),I J (a x).se,I J (a x).ti,I J (a x).rest]]) S N w):
  Calls prog 100 #[.func (.func gf) #[] lb,.func (.func of) #[] T] w fun e w'=>∃xs,S xs/\e=.returned (.tuple #[Ql ((vM i xs).map a),.bool (vM i xs).isSome])/\Below w.1.size w w':=by
 have a8:=zd a4
 have ad:=zd ab
 have ac:=zd eg
 have a7:=zd eo
 obtain⟨b1,b2,b3,a3,z⟩:=zcf w (.cells #[(.func (.func of) #[] T)] 182) (vV E) (vV E)
 have H:Hid (FT (.func (.func of) #[] T) w E ((((w.alloc (.cells #[(.func (.func of) #[] T)] 182)).alloc (vV E)).alloc (vV E)).alloc (.cells #[.bool false] 4))):=
  ⟨(Below.heap_alloc _ _ _ (by rw[z];omega)).trans b1,(Below.heap_alloc _ _ _ (by rw[z];omega)).trans b2,(Below.heap_alloc _ _ _ (by rw[z];omega)).trans b3,by have:=zm (((w.alloc (.cells #[(.func (.func of) #[] T)] 182)).alloc (vV E)).alloc (vV E)) (.cells #[.bool false] 4);rw[z]at this;exact this,a3.alloc (by rw[z];omega) _⟩
 have BZ:Hid (((((w.alloc (.cells #[(.func (.func of) #[] T)] 182)).alloc (vV E)).alloc (vV E)).alloc (.cells #[.bool false] 4)).1.size=w.1.size+4):=by show _=_;rw[zL,z]
 clear a4 ab eg eo b1 b2 b3 a3 z
 unfold vV at H BZ
 dsimp only at H BZ
 refine(callsIn_wide (n:=7)).1 ?_
 refine callsIn_of_wp_marks func100 rfl trivial ?_ rfl
 simp only[ntmps100,List.size_toArray,List.length_cons,List.length_nil,Nat.reduceAdd,Nat.reduceSub,Array.replicate_succ,Array.replicate_zero,List.push_toArray,List.append_toArray,List.nil_append,List.cons_append]
 gi_wp2
 obtain⟨W0,aa⟩:∃W0,((((w.alloc (.cells #[(.func (.func of) #[] T)] 182)).alloc (.cells #[.nilIface,I J 0,I J 0,I J 0] 177)).alloc (.cells #[.nilIface,I J 0,I J 0,I J 0] 177)).alloc (.cells #[.bool false] 4))=W0:=⟨_,rfl⟩
 rw[aa]at H BZ ⊢
 clear aa
 have hz:W0.1.size=w.1.size+4:=ud BZ
 refine qD (F:=Fence.wide) (n:=7) rfl (by omega) (gf:=gf) (lb:=lb) rfl trivial (ud ac) (ud a8 (w.1.size+6) (by omega)) (by omega) (fun h k=>h.trans k) (fun W o o' h hc hw=>KX.putObj o' (by omega) (by omega) h hw) (ud H).i5 (fun _=>rfl)
  (fun q W=>FT (.func (.func of) #[] T) w ((vM i q).map a) W)
  (fun _ _ _=>False)
  (fun s A B ah hs hg hr=>FT.own (by omega) hs hg hr)
  (fun _ _ _ _ _ hs _ _=>hs)
  (ud H)
  (fun x a' W=>∃G,w.1.size+4<=G/\W.1[G]?=Q (.cells #[.iface (a x).jt (.agg #[I J (a x).s.t,I J (a x).s.sr,I J (a x).s.wa]),I J (a x).se,I J (a x).ti,I J (a x).rest] 177 (0,0))/\a'={tmps:=#[.func (.func gf) #[] lb,.func (.func of) #[] T,undef,.pointer (Q ⟨w.1.size,0,E⟩),.pointer (Q ⟨w.1.size+1,0,E⟩),.bool false,.pointer (Q ⟨w.1.size+2,0,E⟩),.pointer (Q ⟨w.1.size+3,0,E⟩),.pointer (Q ⟨G,0,E⟩),.func (.func gf) #[] lb,.agg #[.iface (a x).jt (.agg #[I J (a x).s.t,I J (a x).s.sr,I J (a x).s.wa]),I J (a x).se,I J (a x).ti,I J (a x).rest],undef,undef,undef,undef,undef,undef,undef,undef,undef,undef,undef,undef],defers:=[]})
  (fun x a' s A B ah hs hg hr=>by
   obtain⟨G,h1,h2,h3⟩:=hs
   exact⟨G,h1,zt h2 hg (fun r e=>(hr r e).2),h3⟩) ?assign ?body ?done ?stop
 case assign=>
  rintro l q x W K b hK
  have ag:=b.i5.size
  have an:=za b.i4
  have HK:=zd hK
  have u:=zd b
  clear hK b
  gi_wp2
  have a6:=(Z W.1.size W).alloc (U _) (.cells #[.iface (a x).jt (.agg #[I J (a x).s.t,I J (a x).s.sr,I J (a x).s.wa]),I J (a x).se,I J (a x).ti,I J (a x).rest] 177)
  refine ud HK _ _ (zh a6) (KX.of_below a6) ((ud u).later a6) ⟨W.1.size,by omega,zm _ _,rfl⟩
 case body=>
  rintro l q x a' W hl ⟨r,hr⟩ b ⟨G,am,hx,rfl⟩ ao
  have ag:=b.i5.size
  have a0:=za hx
  have af:=za b.i4
  obtain⟨c1,-⟩:=zc b.i1
  obtain⟨x0,x1,x2,x3,-⟩:=zc hx
  have aj:¬G=w.1.size+2:=by omega
  have ak:¬G=w.1.size+3:=by omega
  have u:=zd b
  have HX:=zd hx
  have v:=zaE i q x
  cases hF:vM i q with
  |none=>
   rw[hF]at b u v
   obtain⟨g0,g1,g2,g3,-⟩:=zc b.i3
   have a9:=fun j=>zE (show W.1[w.1.size+2]?=Q (.cells #[.nilIface,I J 0,I J 0,I J 0] 177 (0,0))from b.i3) j
   have ae:=fun j=>zE b.i4 j
   obtain⟨c4,-⟩:=zc b.i4
   have L:Hid ((vM i (q++[x])).map a=Q (a x)):=by show _=_;rw[v];rfl
   clear b hx hF v
   generalize a x=X at*
   gi_wp2
   refine⟨fun _ h=>(by cases h),?_⟩
   gi_wp2
   all_goals(try go_bits)
   exact zgj hn (by omega) (ud u) (ud L) (Z _ _)
  |some f=>
   rw[hF]at b u v
   simp only[Option.map_some]at b u
   have a1:W.1[w.1.size+2]?=Q (.cells #[.iface (a f).jt (.agg #[I J (a f).s.t,I J (a f).s.sr,I J (a f).s.wa]),I J (a f).se,I J (a f).ti,I J (a f).rest] 177 (0,0)):=b.i3
   obtain⟨g0,g1,g2,g3,-⟩:=zc a1
   obtain⟨c4,-⟩:=zc b.i4
   have HC:=zd (ud ad x f W b.i5)
   have a2:=za b.i3
   have ai:=zd (ud a7)
   have al:=ud a7
   clear b hx hF
   by_cases ho:i x f<0
   ·have L:Hid ((vM i (q++[x])).map a=Q (a x)):=by show _=_;rw[v];simp[ZY,ho]
    clear v
    generalize i x f=O at*
    generalize a x=X at*
    generalize a f=Y at*
    gi_wp2
    refine⟨trivial,(CallsIn.inRound l (callsIn_wide.2 (ud HC))).mono ?_⟩
    rintro e w' ⟨rfl,d⟩
    have d0:=(d.cell (p:=⟨G,0,E⟩) a0).trans x0;have d1:=(d.cell (p:=⟨G,1,E⟩) a0).trans x1;have d2:=(d.cell (p:=⟨G,2,E⟩) a0).trans x2;have d3:=(d.cell (p:=⟨G,3,E⟩) a0).trans x3;have e0:=(d.cell (p:=⟨w.1.size+2,0,E⟩) a2).trans g0;have e1:=(d.cell (p:=⟨w.1.size+2,1,E⟩) a2).trans g1;have e2:=(d.cell (p:=⟨w.1.size+2,2,E⟩) a2).trans g2;have e3:=(d.cell (p:=⟨w.1.size+2,3,E⟩) a2).trans g3;have e4:=(d.cell (p:=⟨w.1.size+3,0,E⟩) af).trans c4;have a9:=fun j=>zE (show w'.1[w.1.size+2]?=Q (.cells #[.iface Y.jt (.agg #[I J Y.s.t,I J Y.s.sr,I J Y.s.wa]),I J Y.se,I J Y.ti,I J Y.rest] 177 (0,0))from((ud u).later d).i3) j;have ae:=fun j=>zE ((ud u).later d).i4 j;have a5:=zd d;clear d
    gi_wp2
    all_goals(try go_bits)
    exact zgj hn (by omega) (ud u) (ud L) (ud a5)
   ·have L:Hid ((vM i (q++[x])).map a=Q (a f)):=by show _=_;rw[v];simp[ZY,ho]
    have ap:decide (i x f<0)=false:=by simpa using ho
    clear v
    generalize i x f=O at*
    generalize a x=X at*
    generalize a f=Y at*
    gi_wp2
    refine⟨trivial,(CallsIn.inRound l (callsIn_wide.2 (ud HC))).mono ?_⟩
    rintro e w' ⟨rfl,d⟩
    have a5:=zd d
    clear d
    gi_wp2
    all_goals(try go_bits)
    exact zhb (ud u) (ud L) (ud a5)
 case done=>
  rintro D xs W hD hS b hK
  have u:=zd b
  have HK:=zd hK
  have HS:=zd hS
  have m:D≠w.1.size+1:=by omega
  obtain⟨r0,r1,r2,r3,-⟩:=zc b.i2
  have a9:=fun j=>zE (show W.1[w.1.size+1]?=Q (.cells #[.nilIface,I J 0,I J 0,I J 0] 177 (0,0))from b.i2) j
  cases C:vM i xs with
  |none=>
   rw[C]at b u
   obtain⟨g0,g1,g2,g3,-⟩:=zc b.i3
   obtain⟨c4,-⟩:=zc b.i4
   have V:=zd C
   clear b hK hS C
   gi_wp2
   gi_region
   gi_wp2
   have R:=zdD (show W.1[w.1.size+1]?=Q (.cells #[.nilIface,I J 0,I J 0,I J 0] 177 (0,0))from(ud u).i2) .nilIface (I J 0) (I J 0) (I J 0)
   have M:(((((W.setCell ⟨w.1.size+1,0,E⟩ .nilIface).setCell ⟨w.1.size+1,1,E⟩ (I J 0)).setCell ⟨w.1.size+1,2,E⟩ (I J 0)).setCell ⟨w.1.size+1,3,E⟩ (I J 0)).drew).1[D]?=Q (.deferred (Q [])):=by
    show((((W.setCell ⟨w.1.size+1,0,E⟩ .nilIface).setCell ⟨w.1.size+1,1,E⟩ (I J 0)).setCell ⟨w.1.size+1,2,E⟩ (I J 0)).setCell ⟨w.1.size+1,3,E⟩ (I J 0)).1[D]?=_
    rw[zF m,zF m,zF m,zF m];exact ud HK
   have P:=((ud u).i5).trans (Xj (w:=W) (B:=w.1.size) (g:=w.1.size+1) (Nat.le_succ _) .nilIface (I J 0) (I J 0) (I J 0))
   refine⟨by simp,.inl ⟨_,_,rfl,run_takeDeferred M,?_⟩⟩
   refine⟨_,zR results100 _ _ (w.1.size+1) _ _ _ _ _ rfl rfl ((World.putObj_heap_other (fun e=>m e.symm)).trans R) underlying177 rfl (by kernel_rfl),xs,ud HS,?_,xj P (U _) (by omega) M _⟩
   rw[ud V];rfl
  |some f=>
   rw[C]at b u
   simp only[Option.map_some]at b u
   have a1:W.1[w.1.size+2]?=Q (.cells #[.iface (a f).jt (.agg #[I J (a f).s.t,I J (a f).s.sr,I J (a f).s.wa]),I J (a f).se,I J (a f).ti,I J (a f).rest] 177 (0,0)):=b.i3
   obtain⟨g0,g1,g2,g3,-⟩:=zc a1
   obtain⟨c4,-⟩:=zc b.i4
   have V:Hid ((vM i xs).map a=Q (a f)/\(vM i xs).isSome=true):=by show _/\_;rw[C];exact⟨rfl,rfl⟩
   clear b hK hS C a1
   generalize a f=y at*
   gi_wp2
   gi_region
   gi_wp2
   have R:=zdD (show W.1[w.1.size+1]?=Q (.cells #[.nilIface,I J 0,I J 0,I J 0] 177 (0,0))from(ud u).i2) (.iface y.jt (.agg #[I J y.s.t,I J y.s.sr,I J y.s.wa])) (I J y.se) (I J y.ti) (I J y.rest)
   have M:((((W.setCell ⟨w.1.size+1,0,E⟩ (.iface y.jt (.agg #[I J y.s.t,I J y.s.sr,I J y.s.wa]))).setCell ⟨w.1.size+1,1,E⟩ (I J y.se)).setCell ⟨w.1.size+1,2,E⟩ (I J y.ti)).setCell ⟨w.1.size+1,3,E⟩ (I J y.rest)).drew.1[D]?=Q (.deferred (Q [])):=by
    show((((W.setCell ⟨w.1.size+1,0,E⟩ (.iface y.jt (.agg #[I J y.s.t,I J y.s.sr,I J y.s.wa]))).setCell ⟨w.1.size+1,1,E⟩ (I J y.se)).setCell ⟨w.1.size+1,2,E⟩ (I J y.ti)).setCell ⟨w.1.size+1,3,E⟩ (I J y.rest)).1[D]?=_
    rw[zF m,zF m,zF m,zF m];exact ud HK
   have P:=((ud u).i5).trans (Xj (w:=W) (B:=w.1.size) (g:=w.1.size+1) (Nat.le_succ _) (.iface y.jt (.agg #[I J y.s.t,I J y.s.sr,I J y.s.wa])) (I J y.se) (I J y.ti) (I J y.rest))
   refine⟨by simp,.inl ⟨_,_,rfl,run_takeDeferred M,?_⟩⟩
   refine⟨_,zR results100 _ _ (w.1.size+1) _ _ _ _ _ rfl rfl ((World.putObj_heap_other (fun e=>m e.symm)).trans R) underlying177 rfl (by kernel_rfl),xs,ud HS,?_,xj P (U _) (by omega) M _⟩
   rw[(ud V).1,(ud V).2];rfl
 case stop=>
  rintro D c q W _ _ h _
  exact h.elim
end Go.Proofs.YtndhpgciopcncaaGreatDoor
