import Derived.Test.YtpbimdkclnekeaaGreatVOrd2
open Go.Value renaming int → I
open Go.IntKind renaming i64 → J
open Nat renaming lt_of_lt_of_le → K
open Nat renaming le_refl → O
open Option renaming none → E
open Go renaming World → Q
open Option renaming some → U
open Nat renaming le_trans → Z
set_option linter.unusedVariables false
set_option maxHeartbeats 8000000
open Go.Proofs.Tryz
namespace Go.Proofs.YtpbimdkclnekeaaGreat.Dr
open Go.RowKit Go.Maps Go.Shelf
structure Below(B:Nat)(w w':Q):Prop where
 bel:Go.RowKit.Below B w w'
 more:w.drawn<=w'.drawn
theorem Below.size{B:Nat}{w w':Q}(h:Below B w w'):w.1.size<=w'.1.size:=h.bel.size
theorem Below.block{B:Nat}{w w':Q}(h:Below B w w'):∀k,k<B->w'.1[k]?=w.1[k]?:=h.bel.block
theorem Below.cell{B:Nat}{w w':Q}(h:Below B w w'){p:Addr}(a:p.block<B):w'.cell? p=w.cell? p:=h.bel.cell a
theorem Below.refl(B:Nat)(w:Q):Below B w w:=⟨Go.RowKit.Below.refl _ _,O _⟩
theorem Below.trans{B:Nat}{a b c:Q}(h:Below B a b)(k:Below B b c):Below B a c:=⟨h.bel.trans k.bel,Z h.more k.more⟩
theorem Below.mono{B B':Nat}{w w':Q}(h:Below B w w')(a:B'<=B):Below B' w w':=⟨h.bel.mono a,h.more⟩
theorem Below.drew{B:Nat}{a w:Q}(h:Below B a w):Below B a w.drew:=⟨h.bel.drew,Z h.more (Nat.le_succ _)⟩
theorem Below.alloc{B:Nat}{a w:Q}(h:Below B a w)(b:B<=w.1.size)(o:Obj):Below B a (w.alloc o):=⟨h.bel.alloc b o,h.more⟩
theorem Xm(w:Q)(p:Addr)(u:Value):(w.setCell p u).drawn=w.drawn:=by
 unfold World.setCell;repeat' split
 all_goals rfl
theorem Below.setCell{B:Nat}{a w:Q}(h:Below B a w){p:Addr}(b:B<=p.block)(u:Value):Below B a (w.setCell p u):=⟨h.bel.setCell b u,by rw[Xm];exact h.more⟩
theorem Below.heap_alloc(w:Q)(o:Obj)(k:Nat)(h:k<w.1.size):(w.alloc o).1[k]?=w.1[k]?:=Go.RowKit.Below.heap_alloc w o k h
theorem Below.heap_setCell(w:Q)(a:Addr)(u:Value)(k:Nat)(h:k≠a.block):(w.setCell a u).1[k]?=w.1[k]?:=Go.RowKit.Below.heap_setCell w a u k h
theorem box2(w:Q)(a b:Obj):((w.alloc a).alloc b).1[w.1.size]?=U a/\((w.alloc a).alloc b).1[w.1.size+1]?=U b/\Below w.1.size w ((w.alloc a).alloc b)/\((w.alloc a).alloc b).1.size=w.1.size+2:=by
 obtain⟨c,d,e,f⟩:=YtpbimdkclnekeaaGreat.box2 w a b
 exact⟨c,d,⟨e,O _⟩,f⟩
theorem below4{B:Nat}{w:Q}{g:Nat}(h:B<=g)(a b c d:Value):Below B w ((((w.setCell ⟨g,0,E⟩ a).setCell ⟨g,1,E⟩ b).setCell ⟨g,2,E⟩ c).setCell ⟨g,3,E⟩ d):=⟨YtpbimdkclnekeaaGreat.below4 h a b c d,by simp only[Xm];exact O _⟩
theorem kind_Roll(s:Sg)(w:Q):Calls prog 250 #[.agg #[I J s.t,I J s.se,I J s.we]] w fun e w'=>e=.returned (I J 1)/\Below w.1.size w w':=by
 go_enter func250,ntmps250
 go_wp2_with fail
 go_ret
 exact⟨rfl,(Below.refl _ _).alloc (O _) _⟩
theorem segm_Roll(s:Sg)(w:Q):Calls prog 251 #[.agg #[I J s.t,I J s.se,I J s.we]] w fun e w'=>e=.returned (.agg #[I J s.t,I J s.se,I J s.we])/\Below w.1.size w w':=by
 obtain⟨c,b,a,d⟩:=box2 w (.cells #[I J s.t,I J s.se,I J s.we] 175) (.cells #[I J s.t,I J s.se,I J s.we] 137)
 go_enter func251,ntmps251
 go_wp2_with fail
 refine bodyPost_ret (v:=.agg #[I J s.t,I J s.se,I J s.we]) (results_cell_row results251 _ _ (w.1.size+1) _ _ _ _ rfl b underlying137 rfl (by kernel_rfl)) rfl ?_
 exact⟨rfl,a⟩
theorem keyOf_Roll(s:Sg)(w:Q):Calls prog 87 #[.iface 175 (.agg #[I J s.t,I J s.se,I J s.we])] w fun e w'=>e=.returned (.agg #[I J 1,I J s.t,I J s.se,I J s.we])/\Below w.1.size w w':=by
 have b0:=zo w (.cells #[I J 0,I J 0,I J 0,I J 0] 147)
 have m:=zF w (.cells #[I J 0,I J 0,I J 0,I J 0] 147)
 have g:Below w.1.size w (w.alloc (.cells #[I J 0,I J 0,I J 0,I J 0] 147)):=(Below.refl _ _).alloc (O _) _
 have p:=fun W=>ze (kind_Roll s W)
 have q:=fun W=>ze (segm_Roll s W)
 have B0:=ze b0
 have n:=ze m
 have h:=ze g
 clear b0 m g
 have x:=vF s
 have y:=vO s
 go_enter func87,ntmps87
 go_wp2_with(first
  |(go_at_call 250;refine(ud (p _)).mono ?_;rintro e z ⟨rfl,a⟩;have c:=ze a;clear a)
  |(go_at_call 251;refine(ud (q _)).mono ?_;rintro e A ⟨rfl,b⟩;have d:w.1.size<(w.alloc (.cells #[I J 0,I J 0,I J 0,I J 0] 147)).1.size:=(by rw[ud n];omega);have f:=(b.block w.1.size (K d (ud c).size)).trans (((ud c).block w.1.size d).trans (ud B0));obtain⟨B,C,D,F,-⟩:=zc f;have G:=fun j=>zD f j;have u:=zd f;have o:=ze f;have k:=ze b;clear b f d))
 have r:=xm (i:=3) (xm (i:=2) (xm (i:=1) (xm (i:=0) (ud o) (I J 1)) (I J s.t)) (I J s.se)) (I J s.we)
 refine bodyPost_ret (v:=.agg #[I J 1,I J s.t,I J s.se,I J s.we]) (results_cell_row results87 _ _ w.1.size _ _ _ _ rfl r underlying147 rfl (by kernel_rfl)) rfl ?_
 have l:=ud h
 have a:=ud c
 have b:=ud k
 exact⟨rfl,(l.trans (a.mono l.size)).trans ((b.mono (Z l.size a.size)).trans (below4 (O _) _ _ _ _))⟩
theorem kind_Reclaim(s:Sg)(w:Q):Calls prog 253 #[.agg #[I J s.t,I J s.se,I J s.we]] w fun e w'=>e=.returned (I J 2)/\Below w.1.size w w':=by
 go_enter func253,ntmps253
 go_wp2_with fail
 go_ret
 exact⟨rfl,(Below.refl _ _).alloc (O _) _⟩
theorem segm_Reclaim(s:Sg)(w:Q):Calls prog 254 #[.agg #[I J s.t,I J s.se,I J s.we]] w fun e w'=>e=.returned (.agg #[I J s.t,I J s.se,I J s.we])/\Below w.1.size w w':=by
 obtain⟨c,b,a,d⟩:=box2 w (.cells #[I J s.t,I J s.se,I J s.we] 177) (.cells #[I J s.t,I J s.se,I J s.we] 137)
 go_enter func254,ntmps254
 go_wp2_with fail
 refine bodyPost_ret (v:=.agg #[I J s.t,I J s.se,I J s.we]) (results_cell_row results254 _ _ (w.1.size+1) _ _ _ _ rfl b underlying137 rfl (by kernel_rfl)) rfl ?_
 exact⟨rfl,a⟩
theorem keyOf_Reclaim(s:Sg)(w:Q):Calls prog 87 #[.iface 177 (.agg #[I J s.t,I J s.se,I J s.we])] w fun e w'=>e=.returned (.agg #[I J 2,I J s.t,I J s.se,I J s.we])/\Below w.1.size w w':=by
 have b0:=zo w (.cells #[I J 0,I J 0,I J 0,I J 0] 147)
 have m:=zF w (.cells #[I J 0,I J 0,I J 0,I J 0] 147)
 have g:Below w.1.size w (w.alloc (.cells #[I J 0,I J 0,I J 0,I J 0] 147)):=(Below.refl _ _).alloc (O _) _
 have p:=fun W=>ze (kind_Reclaim s W)
 have q:=fun W=>ze (segm_Reclaim s W)
 have B0:=ze b0
 have n:=ze m
 have h:=ze g
 clear b0 m g
 have x:=yU s
 have y:=kt s
 go_enter func87,ntmps87
 go_wp2_with(first
  |(go_at_call 253;refine(ud (p _)).mono ?_;rintro e z ⟨rfl,a⟩;have c:=ze a;clear a)
  |(go_at_call 254;refine(ud (q _)).mono ?_;rintro e A ⟨rfl,b⟩;have d:w.1.size<(w.alloc (.cells #[I J 0,I J 0,I J 0,I J 0] 147)).1.size:=(by rw[ud n];omega);have f:=(b.block w.1.size (K d (ud c).size)).trans (((ud c).block w.1.size d).trans (ud B0));obtain⟨B,C,D,F,-⟩:=zc f;have G:=fun j=>zD f j;have u:=zd f;have o:=ze f;have k:=ze b;clear b f d))
 have r:=xm (i:=3) (xm (i:=2) (xm (i:=1) (xm (i:=0) (ud o) (I J 2)) (I J s.t)) (I J s.se)) (I J s.we)
 refine bodyPost_ret (v:=.agg #[I J 2,I J s.t,I J s.se,I J s.we]) (results_cell_row results87 _ _ w.1.size _ _ _ _ rfl r underlying147 rfl (by kernel_rfl)) rfl ?_
 have l:=ud h
 have a:=ud c
 have b:=ud k
 exact⟨rfl,(l.trans (a.mono l.size)).trans ((b.mono (Z l.size a.size)).trans (below4 (O _) _ _ _ _))⟩
theorem keyOf_any(x:Tsk)(w:Q):Calls prog 87 #[.iface x.jt (.agg #[I J x.s.t,I J x.s.se,I J x.s.we])] w fun e w'=>e=.returned (.agg #[I J x.kd,I J x.s.t,I J x.s.se,I J x.s.we])/\Below w.1.size w w':=by
 obtain⟨rl,s,a,b,c⟩:=x
 cases rl with
 |true=>exact keyOf_Roll s w
 |false=>exact keyOf_Reclaim s w
theorem below_more{a w:Q}(h:Below a.1.size a w)(o:Obj):Below a.1.size a (w.alloc o):=h.alloc h.size o
theorem below4s{B:Nat}{w:Q}{g:Nat}(h:B<=g)(a b c d:Value):Below B w (kI w g a b c d):=((((Below.refl _ _).setCell (p:=⟨g,0,E⟩) h _).setCell (p:=⟨g,1,E⟩) h _).setCell (p:=⟨g,2,E⟩) h _).setCell (p:=⟨g,3,E⟩) h _
theorem bel_aa{a:Nat}{w V:Q}(h:Below a w V)(c:a<=V.1.size)(o b:Obj):Below a w ((V.alloc o).alloc b):=(h.alloc c o).alloc (by rw[zF];omega) b
theorem bel_sa{e g:Nat}{w V:Q}(h:Below e w V)(f:e<=V.1.size)(i:e<=g)(a b c d:Value)(o:Obj):Below e w ((kI V g a b c d).alloc o):=(h.trans (below4s i a b c d)).alloc (by rw[zcq];exact f) o
theorem bel_as{e g:Nat}{w V:Q}(h:Below e w V)(f:e<=V.1.size)(i:e<=g)(a b c d:Value)(o:Obj):Below e w (kI (V.alloc o) g a b c d):=(h.alloc f o).trans (below4s i a b c d)
theorem bel_ss{e g k:Nat}{w V:Q}(h:Below e w V)(l:e<=g)(m:e<=k)(a b c d a' f i j:Value):Below e w (kI (kI V g a b c d) k a' f i j):=(h.trans (below4s l a b c d)).trans (below4s m a' f i j)
theorem byKey_any(x y:Tsk)(w:Q):
  Calls prog 91 #[.agg #[.iface x.jt (.agg #[I J x.s.t,I J x.s.se,I J x.s.we]),I J x.si,I J x.tc,I J x.rest],.agg #[.iface y.jt (.agg #[I J y.s.t,I J y.s.se,I J y.s.we]),I J y.si,I J y.tc,I J y.rest]] w fun e w'=>e=.returned (I J (qY x y))/\Below w.1.size w w':=by
 have a8:=fun W=>ze (keyOf_any x W)
 have D:=fun W=>ze (keyOf_any y W)
 obtain⟨b1,b2,aw,bz⟩:=box2 w (.cells #[.iface x.jt (.agg #[I J x.s.t,I J x.s.se,I J x.s.we]),I J x.si,I J x.tc,I J x.rest] 162) (.cells #[.iface y.jt (.agg #[I J y.s.t,I J y.s.se,I J y.s.we]),I J y.si,I J y.tc,I J y.rest] 162)
 obtain⟨x0,-⟩:=zc b1
 obtain⟨y0,-⟩:=zc b2
 have ar:=ze aw
 clear b1 b2 aw
 go_enter func91,ntmps91
 go_wp2_with fail
 generalize((w.alloc (.cells #[.iface x.jt (.agg #[I J x.s.t,I J x.s.se,I J x.s.we]),I J x.si,I J x.tc,I J x.rest] 162)).alloc (.cells #[.iface y.jt (.agg #[I J y.s.t,I J y.s.se,I J y.s.we]),I J y.si,I J y.tc,I J y.rest] 162))=X at*
 have z:w.1.size<X.1.size:=by omega
 have A:w.1.size+1<X.1.size:=by omega
 have b5:¬w.1.size=w.1.size+1:=by omega
 generalize w.1.size+1=o at*
 generalize b4:w.1.size=l at*
 clear bz
 rename_i Q1 K1 hK1
 have aa:∀(bj bk:Nat) (Y:Q),Y.1[bj]?=U (.cells #[I J x.kd,I J x.s.t,I J x.s.se,I J x.s.we] 147 (0,0))->Y.1[bk]?=U (.cells #[I J y.kd,I J y.s.t,I J y.s.se,I J y.s.we] 147 (0,0))->Below l w Y->K1 {tmps:=#[.agg #[.iface x.jt (.agg #[I J x.s.t,I J x.s.se,I J x.s.we]),I J x.si,I J x.tc,I J x.rest],.agg #[.iface y.jt (.agg #[I J y.s.t,I J y.s.se,I J y.s.we]),I J y.si,I J y.tc,I J y.rest],.pointer (U ⟨l,0,E⟩),.pointer (U ⟨o,0,E⟩),I J 0,.pointer (U ⟨bj,0,E⟩),.pointer (U ⟨bk,0,E⟩),.pointer (U ⟨l,0,E⟩),.iface x.jt (.agg #[I J x.s.t,I J x.s.se,I J x.s.we]),.agg #[I J x.kd,I J x.s.t,I J x.s.se,I J x.s.we],.pointer (U ⟨o,0,E⟩),.iface y.jt (.agg #[I J y.s.t,I J y.s.se,I J y.s.we]),.agg #[I J y.kd,I J y.s.t,I J y.s.se,I J y.s.we],undef,undef,undef,undef,undef,undef,undef,undef,undef,undef,undef,undef,undef,undef,undef,undef,undef,undef,undef,undef,undef,undef,undef,undef,undef,undef,undef,undef],defers:=[]} Y:=by
  intro bj bk Y hj B hY
  apply hK1
  clear a8 D x0 y0 z A ar hK1
  have HY:=ze hY
  clear hY
  have aT:=fun(a b:Int) W=>ze (vY a b W)
  have a9:∀W:Q,W.1[Y.1.size]?=U (.cells #[I J (vG x.kd y.kd),I J (vG x.s.t y.s.t),I J (vG x.s.se y.s.se),I J (vG x.s.we y.s.we)] 3)->Hid (Calls prog 138 #[.slice (U ⟨Y.1.size,0,E⟩) 4 4] W fun e w'=>e=.returned (I J (qY x y))/\w'=W):=fun W hW=>
   ziH [vG x.kd y.kd,vG x.s.t y.s.t,vG x.s.se y.s.se,vG x.s.we y.s.we] (by simp) W Y.1.size (fun k v B=>by
    rw[zN hW]
    match k,B with
    |0,B=>simp at B;subst B;rfl
    |1,B=>simp at B;subst B;rfl
    |2,B=>simp at B;subst B;rfl
    |3,B=>simp at B;subst B;rfl)
  have aU:=a9 (Y.alloc (.cells #[I J (vG x.kd y.kd),I J (vG x.s.t y.s.t),I J (vG x.s.se y.s.se),I J (vG x.s.we y.s.we)] 3)) (zo _ _)
  have aV:=a9 (Y.alloc (.cells #[I J (vG x.kd y.kd),I J (vG x.s.t y.s.t),I J (vG x.s.se y.s.se),I J (vG x.s.we y.s.we)] 3)).drew (zo _ _)
  have aW:=a9 (Y.drew.alloc (.cells #[I J (vG x.kd y.kd),I J (vG x.s.t y.s.t),I J (vG x.s.se y.s.se),I J (vG x.s.we y.s.we)] 3)) (zo Y.drew _)
  obtain⟨j0,j1,j2,j3,-⟩:=zc hj
  obtain⟨k0,k1,k2,k3,-⟩:=zc B
  have bq:=zd hj
  have br:=zd B
  clear hj B a9
  generalize av:qY x y=BV at*
  have aS:=ze av
  clear av
  generalize bi:vG x.kd y.kd=C0 at*
  generalize bl:vG x.s.t y.s.t=C1 at*
  generalize bm:vG x.s.se y.s.se=C2 at*
  generalize bn:vG x.s.we y.s.we=C3 at*
  go_wp2_with fail
  go_region_held3 (fun w'=>w'.cell? ⟨bj,0,E⟩=U (I J x.kd)/\w'.cell? ⟨bj,1,E⟩=U (I J x.s.t)/\w'.cell? ⟨bj,2,E⟩=U (I J x.s.se)/\w'.cell? ⟨bj,3,E⟩=U (I J x.s.we)/\w'.cell? ⟨bk,0,E⟩=U (I J y.kd)/\w'.cell? ⟨bk,1,E⟩=U (I J y.s.t)/\w'.cell? ⟨bk,2,E⟩=U (I J y.s.se)/\w'.cell? ⟨bk,3,E⟩=U (I J y.s.we)) (go_keep) (first
   |(go_at_call 137;(with_reducible refine(ud (aT _ _ _)).mono ?_);rintro e V ⟨rfl,rfl⟩)
   |(go_at_call 138;(first|(with_reducible refine(ud aU).mono ?_)|(with_reducible refine(ud aV).mono ?_)|(with_reducible refine(ud aW).mono ?_));rintro e V ⟨rfl,rfl⟩))
  go_wp2_with fail
  go_ret
  have hY:=ud HY
  exact⟨by rw[ud aS];rfl,by rw[b4];exact(hY.alloc (by have:=hY.size;omega) _).drew⟩
 have aX:=ze aa
 clear hK1 aa
 go_region_held3 (fun w'=>w'.cell? ⟨l,0,E⟩=U (.iface x.jt (.agg #[I J x.s.t,I J x.s.se,I J x.s.we]))/\w'.cell? ⟨o,0,E⟩=U (.iface y.jt (.agg #[I J y.s.t,I J y.s.se,I J y.s.we]))) (go_keep) (first
  |(go_at_call 87;(with_reducible refine(ud (a8 _)).mono ?_);rintro e h ⟨rfl,m⟩;have r:h.1[X.1.size]?=U (.cells #[I J 0,I J 0,I J 0,I J 0] 147 (0,0)):=(m.block _ (by first|(simp;done)|(simp;omega))).trans (zaO _ _ _);have a2:h.1[X.1.size+1]?=U (.cells #[I J 0,I J 0,I J 0,I J 0] 147 (0,0)):=(m.block _ (by simp)).trans (zaP _ _ _);obtain⟨b6,b7,b8,b9,-⟩:=zc r;have ba:=fun j=>zD r j;have bb:=zd r;have ad:¬l=X.1.size:=(by omega);have ab:¬X.1.size=l:=(by omega);have ae:¬o=X.1.size:=(by omega);have ac:¬X.1.size=o:=(by omega);obtain⟨bs,bt,bu,bv,-⟩:=zc a2;have bw:=fun j=>zD a2 j;have bx:=zd a2;have aC:¬l=X.1.size+1:=(by omega);have az:¬X.1.size+1=l:=(by omega);have aD:¬o=X.1.size+1:=(by omega);have aA:¬X.1.size+1=o:=(by omega);have aE:¬X.1.size=X.1.size+1:=(by omega);have aB:¬X.1.size+1=X.1.size:=(by omega);have G:=ze r;have au:=ze a2;clear r;clear a2;have i:Below X.1.size X h:=Below.trans (b:=_) (by(repeat(first|exact Below.refl _ _|assumption|apply Below.drew|apply below_more))) (m.mono (by first|exact O _|(simp;done)|(simp;omega)));have x1:=(i.cell (p:=⟨l,0,E⟩) z).trans x0;have y1:=(i.cell (p:=⟨o,0,E⟩) A).trans y0;have ax:=K z i.size;have ay:=K A i.size;have q:=ze i;clear m i)
  |(go_at_call 87;(with_reducible refine(ud (a8 _)).mono ?_);rintro e h ⟨rfl,m⟩;have r:h.1[X.1.size]?=U (.cells #[I J 0,I J 0,I J 0,I J 0] 147 (0,0)):=(m.block _ (by simp)).trans (zeS _ _);obtain⟨b6,b7,b8,b9,-⟩:=zc r;have ba:=fun j=>zD r j;have bb:=zd r;have ad:¬l=X.1.size:=(by omega);have ab:¬X.1.size=l:=(by omega);have ae:¬o=X.1.size:=(by omega);have ac:¬X.1.size=o:=(by omega);have G:=ze r;clear r;have i:Below X.1.size X h:=Below.trans (b:=_) (by(repeat(first|exact Below.refl _ _|assumption|apply Below.drew|apply below_more))) (m.mono (by first|exact O _|(simp;done)|(simp;omega)));have x1:=(i.cell (p:=⟨l,0,E⟩) z).trans x0;have y1:=(i.cell (p:=⟨o,0,E⟩) A).trans y0;have ax:=K z i.size;have ay:=K A i.size;have q:=ze i;clear m i)
  |(go_at_call 87;(with_reducible refine(ud (a8 _)).mono ?_);rintro e h ⟨rfl,m⟩;have i:Below X.1.size X h:=Below.trans (b:=_) (by(repeat(first|exact Below.refl _ _|assumption|apply Below.drew|apply below_more))) (m.mono (by first|exact O _|(simp;done)|(simp;omega)));have x1:=(i.cell (p:=⟨l,0,E⟩) z).trans x0;have y1:=(i.cell (p:=⟨o,0,E⟩) A).trans y0;have ax:=K z i.size;have ay:=K A i.size;have q:=ze i;clear m i)
  |(go_at_call 87;(with_reducible refine(ud (D _)).mono ?_);rintro e u ⟨rfl,f⟩;have d:Below h.1.size h u:=Below.trans (b:=_) (by(repeat(first|exact Below.refl _ _|assumption|apply Below.drew|apply below_more))) (f.mono (by first|exact O _|(simp;done)|(simp;omega)));have g:=(d.block _ (zd (ud G))).trans (ud G);obtain⟨af,ag,ah,ai,-⟩:=zc g;have aj:=fun j=>zD g j;have ak:=zd g;have P:¬l=X.1.size:=(by omega);have M:¬X.1.size=l:=(by omega);have R:¬o=X.1.size:=(by omega);have N:¬X.1.size=o:=(by omega);have H:=ze g;clear g;have C:=(d.block _ (zd (ud au))).trans (ud au);obtain⟨bc,bd,be,bf,-⟩:=zc C;have bg:=fun j=>zD C j;have bh:=zd C;have ao:¬l=X.1.size+1:=(by omega);have al:¬X.1.size+1=l:=(by omega);have ap:¬o=X.1.size+1:=(by omega);have am:¬X.1.size+1=o:=(by omega);have aq:¬X.1.size=X.1.size+1:=(by omega);have an:¬X.1.size+1=X.1.size:=(by omega);have S:=ze C;clear C;have c:Below X.1.size X u:=(ud q).trans (d.mono (ud q).size);have x2:=(c.cell (p:=⟨l,0,E⟩) z).trans x0;have y2:=(c.cell (p:=⟨o,0,E⟩) A).trans y0;have a0:=K z c.size;have a1:=K A c.size;have F:=ze c;clear f c d)
  |(go_at_call 87;(with_reducible refine(ud (D _)).mono ?_);rintro e u ⟨rfl,f⟩;have n:u.1[h.1.size]?=U (.cells #[I J 0,I J 0,I J 0,I J 0] 147 (0,0)):=(f.block _ (by simp)).trans (zeS _ _);obtain⟨aF,aG,aH,aI,-⟩:=zc n;have aJ:=fun j=>zD n j;have val:=zd n;have a5:¬l=h.1.size:=(by omega);have a3:¬h.1.size=l:=(by omega);have a6:¬o=h.1.size:=(by omega);have a4:¬h.1.size=o:=(by omega);have aL:¬X.1.size=h.1.size:=(by omega);have aK:¬h.1.size=X.1.size:=(by omega);have L:=ze n;clear n;have d:Below h.1.size h u:=Below.trans (b:=_) (by(repeat(first|exact Below.refl _ _|assumption|apply Below.drew|apply below_more))) (f.mono (by first|exact O _|(simp;done)|(simp;omega)));have g:=(d.block _ (zd (ud G))).trans (ud G);obtain⟨af,ag,ah,ai,-⟩:=zc g;have aj:=fun j=>zD g j;have ak:=zd g;have P:¬l=X.1.size:=(by omega);have M:¬X.1.size=l:=(by omega);have R:¬o=X.1.size:=(by omega);have N:¬X.1.size=o:=(by omega);have H:=ze g;clear g;have c:Below X.1.size X u:=(ud q).trans (d.mono (ud q).size);have x2:=(c.cell (p:=⟨l,0,E⟩) z).trans x0;have y2:=(c.cell (p:=⟨o,0,E⟩) A).trans y0;have a0:=K z c.size;have a1:=K A c.size;have F:=ze c;clear f c d)
  |(go_at_call 87;(with_reducible refine(ud (D _)).mono ?_);rintro e u ⟨rfl,f⟩;have d:Below h.1.size h u:=Below.trans (b:=_) (by(repeat(first|exact Below.refl _ _|assumption|apply Below.drew|apply below_more))) (f.mono (by first|exact O _|(simp;done)|(simp;omega)));have g:=(d.block _ (zd (ud G))).trans (ud G);obtain⟨af,ag,ah,ai,-⟩:=zc g;have aj:=fun j=>zD g j;have ak:=zd g;have P:¬l=X.1.size:=(by omega);have M:¬X.1.size=l:=(by omega);have R:¬o=X.1.size:=(by omega);have N:¬X.1.size=o:=(by omega);have H:=ze g;clear g;have c:Below X.1.size X u:=(ud q).trans (d.mono (ud q).size);have x2:=(c.cell (p:=⟨l,0,E⟩) z).trans x0;have y2:=(c.cell (p:=⟨o,0,E⟩) A).trans y0;have a0:=K z c.size;have a1:=K A c.size;have F:=ze c;clear f c d)
  |(go_at_call 87;(with_reducible refine(ud (D _)).mono ?_);rintro e u ⟨rfl,f⟩;have n:u.1[h.1.size]?=U (.cells #[I J 0,I J 0,I J 0,I J 0] 147 (0,0)):=(f.block _ (by first|(simp;done)|(simp;omega))).trans (zaO _ _ _);have a7:u.1[h.1.size+1]?=U (.cells #[I J 0,I J 0,I J 0,I J 0] 147 (0,0)):=(f.block _ (by simp)).trans (zaP _ _ _);obtain⟨aF,aG,aH,aI,-⟩:=zc n;have aJ:=fun j=>zD n j;have val:=zd n;have a5:¬l=h.1.size:=(by omega);have a3:¬h.1.size=l:=(by omega);have a6:¬o=h.1.size:=(by omega);have a4:¬h.1.size=o:=(by omega);obtain⟨bA,bB,bC,bD,-⟩:=zc a7;have bE:=fun j=>zD a7 j;have bF:=zd a7;have aP:¬l=h.1.size+1:=(by omega);have aM:¬h.1.size+1=l:=(by omega);have aQ:¬o=h.1.size+1:=(by omega);have aN:¬h.1.size+1=o:=(by omega);have aR:¬h.1.size=h.1.size+1:=(by omega);have aO:¬h.1.size+1=h.1.size:=(by omega);have L:=ze n;have T:=ze a7;clear n;clear a7;have d:Below h.1.size h u:=Below.trans (b:=_) (by(repeat(first|exact Below.refl _ _|assumption|apply Below.drew|apply below_more))) (f.mono (by first|exact O _|(simp;done)|(simp;omega)));have c:Below X.1.size X u:=(ud q).trans (d.mono (ud q).size);have x2:=(c.cell (p:=⟨l,0,E⟩) z).trans x0;have y2:=(c.cell (p:=⟨o,0,E⟩) A).trans y0;have a0:=K z c.size;have a1:=K A c.size;have F:=ze c;clear f c d)
  |(go_at_call 87;(with_reducible refine(ud (D _)).mono ?_);rintro e u ⟨rfl,f⟩;have n:u.1[h.1.size]?=U (.cells #[I J 0,I J 0,I J 0,I J 0] 147 (0,0)):=(f.block _ (by simp)).trans (zeS _ _);obtain⟨aF,aG,aH,aI,-⟩:=zc n;have aJ:=fun j=>zD n j;have val:=zd n;have a5:¬l=h.1.size:=(by omega);have a3:¬h.1.size=l:=(by omega);have a6:¬o=h.1.size:=(by omega);have a4:¬h.1.size=o:=(by omega);have L:=ze n;clear n;have d:Below h.1.size h u:=Below.trans (b:=_) (by(repeat(first|exact Below.refl _ _|assumption|apply Below.drew|apply below_more))) (f.mono (by first|exact O _|(simp;done)|(simp;omega)));have c:Below X.1.size X u:=(ud q).trans (d.mono (ud q).size);have x2:=(c.cell (p:=⟨l,0,E⟩) z).trans x0;have y2:=(c.cell (p:=⟨o,0,E⟩) A).trans y0;have a0:=K z c.size;have a1:=K A c.size;have F:=ze c;clear f c d)
  |(go_at_call 87;(with_reducible refine(ud (D _)).mono ?_);rintro e u ⟨rfl,f⟩;have d:Below h.1.size h u:=Below.trans (b:=_) (by(repeat(first|exact Below.refl _ _|assumption|apply Below.drew|apply below_more))) (f.mono (by first|exact O _|(simp;done)|(simp;omega)));have c:Below X.1.size X u:=(ud q).trans (d.mono (ud q).size);have x2:=(c.cell (p:=⟨l,0,E⟩) z).trans x0;have y2:=(c.cell (p:=⟨o,0,E⟩) A).trans y0;have a0:=K z c.size;have a1:=K A c.size;have F:=ze c;clear f c d))
 all_goals show K1 _ _
 all_goals(have hB:=(ud ar).trans ((ud F).mono (show l<=X.1.size by omega));have bp:=(ud F).size;have bo:=(ud q).size)
 all_goals try clear ad
 all_goals try clear ae
 all_goals try clear uan2
 all_goals try clear uan3
 all_goals try clear uan4
 all_goals try clear ab
 all_goals try clear ac
 all_goals try clear uam2
 all_goals try clear uam3
 all_goals try clear uam4
 all_goals try clear aC
 all_goals try clear aD
 all_goals try clear aE
 all_goals try clear ubn3
 all_goals try clear ubn4
 all_goals try clear az
 all_goals try clear aA
 all_goals try clear aB
 all_goals try clear ubm3
 all_goals try clear ubm4
 all_goals try clear a5
 all_goals try clear a6
 all_goals try clear aL
 all_goals try clear van3
 all_goals try clear van4
 all_goals try clear a3
 all_goals try clear a4
 all_goals try clear aK
 all_goals try clear vam3
 all_goals try clear vam4
 all_goals try clear aP
 all_goals try clear aQ
 all_goals try clear aR
 all_goals try clear vbn3
 all_goals try clear vbn4
 all_goals try clear aM
 all_goals try clear aN
 all_goals try clear aO
 all_goals try clear vbm3
 all_goals try clear vbm4
 all_goals try clear P
 all_goals try clear R
 all_goals try clear uavn2
 all_goals try clear uavn3
 all_goals try clear uavn4
 all_goals try clear M
 all_goals try clear N
 all_goals try clear uavm2
 all_goals try clear uavm3
 all_goals try clear uavm4
 all_goals try clear ao
 all_goals try clear ap
 all_goals try clear aq
 all_goals try clear ubvn3
 all_goals try clear ubvn4
 all_goals try clear al
 all_goals try clear am
 all_goals try clear an
 all_goals try clear ubvm3
 all_goals try clear ubvm4
 all_goals try clear b5
 all_goals(with_reducible refine ud aX _ _ _ ?_ ?_ ?_)
 all_goals(try have b0:=zd (ud L))
 all_goals(try have b3:=zd (ud T))
 all_goals(try have aY:=zd (ud H))
 all_goals(try have aZ:=zd (ud S))
 all_goals(first
  |(with_reducible exact zaO _ _ _)
  |(with_reducible exact zaP _ _ _)
  |(with_reducible exact zjz _ _ _ _ _ _ _)
  |(with_reducible exact Vq (ud L) _ _ _ _ _)
  |(with_reducible exact Vr (ud L) _ _ _ _ _)
  |(with_reducible exact Vq (ud T) _ _ _ _ _)
  |(with_reducible exact Vr (ud T) _ _ _ _ _)
  |(with_reducible exact Vq (ud H) _ _ _ _ _)
  |(with_reducible exact Vr (ud H) _ _ _ _ _)
  |(with_reducible exact Vq (ud S) _ _ _ _ _)
  |(with_reducible exact Vr (ud S) _ _ _ _ _)
  |(with_reducible exact zjA (by omega) _ _ _ _ _)
  |(with_reducible exact VS (by omega) (ud L) _ _ _ _ _ _ _ _)
  |(with_reducible exact VT (by omega) (ud L) _ _ _ _ _ _ _ _)
  |(with_reducible exact VS (by omega) (ud T) _ _ _ _ _ _ _ _)
  |(with_reducible exact VT (by omega) (ud T) _ _ _ _ _ _ _ _)
  |(with_reducible exact VS (by omega) (ud H) _ _ _ _ _ _ _ _)
  |(with_reducible exact VT (by omega) (ud H) _ _ _ _ _ _ _ _)
  |(with_reducible exact VS (by omega) (ud S) _ _ _ _ _ _ _ _)
  |(with_reducible exact VT (by omega) (ud S) _ _ _ _ _ _ _ _)
  |((with_reducible refine bel_aa hB ?_ _ _)<;>omega)
  |((with_reducible refine bel_sa hB ?_ ?_ _ _ _ _ _)<;>omega)
  |((with_reducible refine bel_as hB ?_ ?_ _ _ _ _ _)<;>omega)
  |((with_reducible refine bel_ss hB ?_ ?_ _ _ _ _ _ _ _ _)<;>omega))
end Go.Proofs.YtpbimdkclnekeaaGreat.Dr
namespace Go.Proofs.YtpbimdkclnekeaaGreat
open Go.RowKit Go.Maps Go.Shelf
theorem byKey_any(x y:Tsk)(w:Q):
  Calls prog 91 #[.agg #[.iface x.jt (.agg #[I J x.s.t,I J x.s.se,I J x.s.we]),I J x.si,I J x.tc,I J x.rest],.agg #[.iface y.jt (.agg #[I J y.s.t,I J y.s.se,I J y.s.we]),I J y.si,I J y.tc,I J y.rest]] w fun e w'=>e=.returned (I J (qY x y))/\Below w.1.size w w':=
 (Dr.byKey_any x y w).mono fun _ _ h=>⟨h.1,h.2.bel⟩
end Go.Proofs.YtpbimdkclnekeaaGreat
