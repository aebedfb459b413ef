import Derived.Test.YtndhpgciopcncaaGreatDoorHOrd2
open Nat renaming lt_of_lt_of_le → J
open Nat renaming le_refl → K
open Option renaming some → E
open Go renaming World → Q
set_option linter.unusedVariables false
set_option maxHeartbeats 8000000
open Go.Proofs.Tryz
namespace Go.Proofs.YtndhpgciopcncaaGreatDoor.Dr
open Go.RowKit Go.Maps Go.Shelf
theorem kind_Roll(s:Sg)(w:Q):Calls prog 334 #[.agg #[I s.t,I s.sr,I s.wn]] w fun e w'=>e=.returned (I 1)/\Below w.1.size w w':=by
 go_enter func334,ntmps334;go_wp2_with fail;go_ret;exact⟨rfl,(Below.refl _ _).alloc (K _) _⟩
theorem segm_Roll(s:Sg)(w:Q):Calls prog 335 #[.agg #[I s.t,I s.sr,I s.wn]] w fun e w'=>e=.returned (.agg #[I s.t,I s.sr,I s.wn])/\Below w.1.size w w':=by
 obtain⟨c,b,a,d⟩:=box2 w (.cells #[I s.t,I s.sr,I s.wn] 195) (.cells #[I s.t,I s.sr,I s.wn] 146);go_enter func335,ntmps335;go_wp2_with fail;refine bodyPost_ret (v:=.agg #[I s.t,I s.sr,I s.wn]) (results_cell_row results335 _ _ (w.1.size+1) _ _ _ _ rfl b underlying146 rfl (by kernel_rfl)) rfl ?_;exact⟨rfl,a⟩
theorem keyOf_Roll(s:Sg)(w:Q):Calls prog 102 #[.iface 195 (.agg #[I s.t,I s.sr,I s.wn])] w fun e w'=>e=.returned (.agg #[I 1,I s.t,I s.sr,I s.wn])/\Below w.1.size w w':=by
 have b0:=zq w zcD;have m:=zM w zcD;have g:Below w.1.size w (w.alloc zcD):=(Below.refl _ _).alloc (K _) _;have p:=fun W=>ze (kind_Roll s W);have q:=fun W=>ze (segm_Roll s W);have B0:=ze b0;have n:=ze m;have h:=ze g;clear b0 m g;have x:=jm s;have y:=jF s;go_enter func102,ntmps102;go_wp2_with(first
  |(go_at_call 334;refine(ud (p _)).mono ?_;rintro e w1 ⟨rfl,a⟩;have c:=ze a;clear a)
  |(go_at_call 335;refine(ud (q _)).mono ?_;rintro e w2 ⟨rfl,b⟩;have d:w.1.size<(w.alloc zcD).1.size:=(by rw[ud n];omega);have f:=(b.block w.1.size (J d (ud c).size)).trans (((ud c).block w.1.size d).trans (ud B0));obtain⟨z,A,B,C,-⟩:=zc f;have D:=fun j=>zw f j;have u:=zd f;have o:=ze f;have k:=ze b;clear b f d))
 have r:=xD (i:=3) (xD (i:=2) (xD (i:=1) (xD (i:=0) (ud o) (I 1)) (I s.t)) (I s.sr)) (I s.wn);refine bodyPost_ret (v:=.agg #[I 1,I s.t,I s.sr,I s.wn]) (results_cell_row results102 _ _ w.1.size _ _ _ _ rfl r underlying162 rfl (by kernel_rfl)) rfl ?_;have l:=ud h;have a:=ud c;have b:=ud k;exact⟨rfl,(l.trans (a.mono l.size)).trans ((b.mono (Nat.le_trans l.size a.size)).trans (below4 (K _) _ _ _ _))⟩
theorem kind_Reclaim(s:Sg)(w:Q):Calls prog 337 #[.agg #[I s.t,I s.sr,I s.wn]] w fun e w'=>e=.returned (I 2)/\Below w.1.size w w':=by
 go_enter func337,ntmps337;go_wp2_with fail;go_ret;exact⟨rfl,(Below.refl _ _).alloc (K _) _⟩
theorem segm_Reclaim(s:Sg)(w:Q):Calls prog 338 #[.agg #[I s.t,I s.sr,I s.wn]] w fun e w'=>e=.returned (.agg #[I s.t,I s.sr,I s.wn])/\Below w.1.size w w':=by
 obtain⟨c,b,a,d⟩:=box2 w (.cells #[I s.t,I s.sr,I s.wn] 197) (.cells #[I s.t,I s.sr,I s.wn] 146);go_enter func338,ntmps338;go_wp2_with fail;refine bodyPost_ret (v:=.agg #[I s.t,I s.sr,I s.wn]) (results_cell_row results338 _ _ (w.1.size+1) _ _ _ _ rfl b underlying146 rfl (by kernel_rfl)) rfl ?_;exact⟨rfl,a⟩
theorem keyOf_Reclaim(s:Sg)(w:Q):Calls prog 102 #[.iface 197 (.agg #[I s.t,I s.sr,I s.wn])] w fun e w'=>e=.returned (.agg #[I 2,I s.t,I s.sr,I s.wn])/\Below w.1.size w w':=by
 have b0:=zq w zcD;have m:=zM w zcD;have g:Below w.1.size w (w.alloc zcD):=(Below.refl _ _).alloc (K _) _;have p:=fun W=>ze (kind_Reclaim s W);have q:=fun W=>ze (segm_Reclaim s W);have B0:=ze b0;have n:=ze m;have h:=ze g;clear b0 m g;have x:=kt s;have y:=kS s;go_enter func102,ntmps102;go_wp2_with(first
  |(go_at_call 337;refine(ud (p _)).mono ?_;rintro e w1 ⟨rfl,a⟩;have c:=ze a;clear a)
  |(go_at_call 338;refine(ud (q _)).mono ?_;rintro e w2 ⟨rfl,b⟩;have d:w.1.size<(w.alloc zcD).1.size:=(by rw[ud n];omega);have f:=(b.block w.1.size (J d (ud c).size)).trans (((ud c).block w.1.size d).trans (ud B0));obtain⟨z,A,B,C,-⟩:=zc f;have D:=fun j=>zw f j;have u:=zd f;have o:=ze f;have k:=ze b;clear b f d))
 have r:=xD (i:=3) (xD (i:=2) (xD (i:=1) (xD (i:=0) (ud o) (I 2)) (I s.t)) (I s.sr)) (I s.wn);refine bodyPost_ret (v:=.agg #[I 2,I s.t,I s.sr,I s.wn]) (results_cell_row results102 _ _ w.1.size _ _ _ _ rfl r underlying162 rfl (by kernel_rfl)) rfl ?_;have l:=ud h;have a:=ud c;have b:=ud k;exact⟨rfl,(l.trans (a.mono l.size)).trans ((b.mono (Nat.le_trans l.size a.size)).trans (below4 (K _) _ _ _ _))⟩
theorem keyOf_any(x:Tsk)(w:Q):Calls prog 102 #[(jZz x)] w fun e w'=>e=.returned (.agg #[I x.kd,I x.s.t,I x.s.sr,I x.s.wn])/\Below w.1.size w w':=by
 obtain⟨rl,s,a,b,c⟩:=x;cases rl with
 |true=>exact keyOf_Roll s w
 |false=>exact keyOf_Reclaim s w
theorem below_more{a w:Q}(h:Below a.1.size a w)(o:Obj):Below a.1.size a (w.alloc o):=h.alloc h.size o
theorem below4s{B:Nat}{w:Q}{g:Nat}(h:B<=g)(a b c d:Value):Below B w (vj w g a b c d):=((((Below.refl _ _).setCell (p:=(U g 0)) h _).setCell (p:=(U g 1)) h _).setCell (p:=(U g 2)) h _).setCell (p:=(U g 3)) h _
theorem bel_aa{n0:Nat}{w V:Q}(h:Below n0 w V)(b:n0<=V.1.size)(o a:Obj):Below n0 w ((V.alloc o).alloc a):=(h.alloc b o).alloc (by rw[zM];omega) a
theorem bel_sa{n0 g:Nat}{w V:Q}(h:Below n0 w V)(e:n0<=V.1.size)(f:n0<=g)(a b c d:Value)(o:Obj):Below n0 w ((vj V g a b c d).alloc o):=(h.trans (below4s f a b c d)).alloc (by rw[zeU];exact e) o
theorem bel_as{n0 g:Nat}{w V:Q}(h:Below n0 w V)(e:n0<=V.1.size)(f:n0<=g)(a b c d:Value)(o:Obj):Below n0 w (vj (V.alloc o) g a b c d):=(h.alloc e o).trans (below4s f a b c d)
theorem bel_ss{n0 g k:Nat}{w V:Q}(h:Below n0 w V)(j:n0<=g)(l:n0<=k)(a b c d e b' f i:Value):Below n0 w (vj (vj V g a b c d) k e b' f i):=(h.trans (below4s j a b c d)).trans (below4s l e b' f i)
theorem byKey_any(x y:Tsk)(w:Q):
  Calls prog 106 #[.agg (tZz x),.agg (tZz y)] w fun e w'=>e=.returned (I (qE x y))/\Below w.1.size w w':=by
 have a8:=fun W=>ze (keyOf_any x W);have z:=fun W=>ze (keyOf_any y W);obtain⟨b1,b2,ay,bz⟩:=box2 w (.cells (tZz x) 177) (.cells (tZz y) 177);obtain⟨x0,-⟩:=zc b1;obtain⟨y0,-⟩:=zc b2;have av:=ze ay;clear b1 b2 ay;go_enter func106,ntmps106;go_wp2_with fail;generalize((w.alloc (.cells (tZz x) 177)).alloc (.cells (tZz y) 177))=X at*;have l0:w.1.size<X.1.size:=by omega
 have l1:w.1.size+1<X.1.size:=by omega
 have b8:¬w.1.size=w.1.size+1:=by omega
 generalize w.1.size+1=n1 at*;generalize az:w.1.size=n0 at*;clear bz;rename_i Q1 K1 hK1;have a9:∀(F bk:Nat) (Y:Q),Y.1[F]?=E (.cells #[I x.kd,I x.s.t,I x.s.sr,I x.s.wn] 162 (0,0))->Y.1[bk]?=E (.cells #[I y.kd,I y.s.t,I y.s.sr,I y.s.wn] 162 (0,0))->Below n0 w Y->K1 {tmps:=#[.agg (tZz x),.agg (tZz y),(O n0),(O n1),I 0,(O F),(O bk),(O n0),(jZz x),.agg #[I x.kd,I x.s.t,I x.s.sr,I x.s.wn],(O n1),(jZz y),.agg #[I y.kd,I y.s.t,I y.s.sr,I y.s.wn],undef,undef,undef,undef,undef,undef,undef,undef,undef,undef,undef,undef],defers:=[]} Y:=by
  intro F bk Y hj S hY;apply hK1;clear a8 z x0 y0 l0 l1 av hK1;have HY:=ze hY;clear hY;have aV:=fun(a b:Int) W=>ze (kY a b W);have ak:∀V W:Q,W.1[V.1.size]?=E (.cells #[I (vT x.kd y.kd),I (zeB x.s y.s)] 3)->Hid (Calls prog 163 #[.slice (E (U V.1.size 0)) 2 2] W fun e w'=>e=.returned (I (qE x y))/\w'=W):=fun V W hW=>by
   have h:=ziN [vT x.kd y.kd,zeB x.s y.s] (by simp) W V.1.size (fun k v S=>by
    rw[xR hW]
    match k,S with
    |0,S=>simp at S;subst S;rfl
    |1,S=>simp at S;subst S;rfl)
   rw[zfr]at h;exact h
  have aW:=ze (QO x.s y.s Y);have aX:=ze (QO x.s y.s Y.drew);obtain⟨j0,j1,j2,j3,-⟩:=zc hj;obtain⟨k0,k1,k2,k3,-⟩:=zc S;have a0:=zd hj;have a1:=zd S;clear hj S;generalize ax:qE x y=BV at*;have au:=ze ax;clear ax;generalize bn:vT x.kd y.kd=C0 at*;generalize bo:zeB x.s y.s=C1 at*;go_wp2_with fail;go_region_held3 (fun w'=>w'.cell? (U F 0)=E (I x.kd)/\w'.cell? (U F 1)=E (I x.s.t)/\w'.cell? (U F 2)=E (I x.s.sr)/\w'.cell? (U F 3)=E (I x.s.wn)/\w'.cell? (U bk 0)=E (I y.kd)/\w'.cell? (U bk 1)=E (I y.s.t)/\w'.cell? (U bk 2)=E (I y.s.sr)/\w'.cell? (U bk 3)=E (I y.s.wn)) (go_keep) (first
   |(go_at_call 162;(with_reducible refine(ud (aV _ _ _)).mono ?_);rintro e V0 ⟨rfl,rfl⟩)
   |(go_at_call 166;(first|(with_reducible refine(ud aW).mono ?_)|(with_reducible refine(ud aX).mono ?_));rintro e V ⟨rfl,al⟩;have N:Dr.Below Y.1.size Y V:=(by first|exact al|exact((Dr.Below.refl Y.1.size Y).drew).trans al);have bH:Cz V F 0 (I x.kd):=(N.cell (p:=(U F 0)) a0).trans j0;have bI:Cz V F 1 (I x.s.t):=(N.cell (p:=(U F 1)) a0).trans j1;have bJ:Cz V F 2 (I x.s.sr):=(N.cell (p:=(U F 2)) a0).trans j2;have bK:Cz V F 3 (I x.s.wn):=(N.cell (p:=(U F 3)) a0).trans j3;have bL:Cz V bk 0 (I y.kd):=(N.cell (p:=(U bk 0)) a1).trans k0;have bM:Cz V bk 1 (I y.s.t):=(N.cell (p:=(U bk 1)) a1).trans k1;have bN:Cz V bk 2 (I y.s.sr):=(N.cell (p:=(U bk 2)) a1).trans k2;have bO:Cz V bk 3 (I y.s.wn):=(N.cell (p:=(U bk 3)) a1).trans k3;have br:=J a0 N.size;have bs:=J a1 N.size;have aY:=ak V (V.alloc (.cells #[I C0,I C1] 3)) (zq _ _);have aZ:=ak V (V.alloc (.cells #[I C0,I C1] 3)).drew (zq _ _);have b0:=ak V (V.drew.alloc (.cells #[I C0,I C1] 3)) (zq V.drew _);have HV:=ze N;clear N al)
   |(go_at_call 163;(first|(with_reducible refine(ud aY).mono ?_)|(with_reducible refine(ud aZ).mono ?_)|(with_reducible refine(ud b0).mono ?_));rintro e V9 ⟨rfl,rfl⟩))
  all_goals go_wp2_with fail
  all_goals go_ret
  all_goals have hY:=(ud HY).trans ((ud HV).mono (by have:=(ud HY).size;omega))
  all_goals first|exact⟨by rw[ud au];rfl,by rw[az];exact hY.alloc (by have:=hY.size;omega) _⟩|exact⟨by rw[ud au];rfl,by rw[az];exact(hY.alloc (by have:=hY.size;omega) _).drew⟩
 have b3:=ze a9;clear hK1 a9;go_region_held3 (fun w'=>w'.cell? (U n0 0)=E (jZz x)/\w'.cell? (U n1 0)=E (jZz y)) (go_keep) (first
  |(go_at_call 102;(with_reducible refine(ud (a8 _)).mono ?_);rintro e i ⟨rfl,m⟩;have q:i.1[X.1.size]?=E (.cells #[I 0,I 0,I 0,I 0] 162 (0,0)):=(m.block _ (by first|(simp;done)|(simp;omega))).trans (zcX _ _ _);have a2:i.1[X.1.size+1]?=E (.cells #[I 0,I 0,I 0,I 0] 162 (0,0)):=(m.block _ (by simp)).trans (zcY _ _ _);obtain⟨b9,ba,bb,bc,-⟩:=zc q;have bd:=fun j=>zw q j;have be:=zd q;have ac:¬n0=X.1.size:=(by omega);have aa:¬X.1.size=n0:=(by omega);have ad:¬n1=X.1.size:=(by omega);have ab:¬X.1.size=n1:=(by omega);obtain⟨bt,bu,bv,bw,-⟩:=zc a2;have bx:=fun j=>zw a2 j;have bA:=zd a2;have aF:¬n0=X.1.size+1:=(by omega);have aC:¬X.1.size+1=n0:=(by omega);have aG:¬n1=X.1.size+1:=(by omega);have aD:¬X.1.size+1=n1:=(by omega);have aH:¬X.1.size=X.1.size+1:=(by omega);have aE:¬X.1.size+1=X.1.size:=(by omega);have B:=ze q;have aw:=ze a2;clear q;clear a2;have l:Below X.1.size X i:=Below.trans (b:=_) (by(repeat(first|exact Below.refl _ _|assumption|apply Below.drew|apply below_more))) (m.mono (by first|exact K _|(simp;done)|(simp;omega)));have x1:=(l.cell (p:=(U n0 0)) l0).trans x0;have y1:=(l.cell (p:=(U n1 0)) l1).trans y0;have aA:=J l0 l.size;have aB:=J l1 l.size;have o:=ze l;clear m l)
  |(go_at_call 102;(with_reducible refine(ud (a8 _)).mono ?_);rintro e i ⟨rfl,m⟩;have q:i.1[X.1.size]?=E (.cells #[I 0,I 0,I 0,I 0] 162 (0,0)):=(m.block _ (by simp)).trans (zhZ _ _);obtain⟨b9,ba,bb,bc,-⟩:=zc q;have bd:=fun j=>zw q j;have be:=zd q;have ac:¬n0=X.1.size:=(by omega);have aa:¬X.1.size=n0:=(by omega);have ad:¬n1=X.1.size:=(by omega);have ab:¬X.1.size=n1:=(by omega);have B:=ze q;clear q;have l:Below X.1.size X i:=Below.trans (b:=_) (by(repeat(first|exact Below.refl _ _|assumption|apply Below.drew|apply below_more))) (m.mono (by first|exact K _|(simp;done)|(simp;omega)));have x1:=(l.cell (p:=(U n0 0)) l0).trans x0;have y1:=(l.cell (p:=(U n1 0)) l1).trans y0;have aA:=J l0 l.size;have aB:=J l1 l.size;have o:=ze l;clear m l)
  |(go_at_call 102;(with_reducible refine(ud (a8 _)).mono ?_);rintro e i ⟨rfl,m⟩;have l:Below X.1.size X i:=Below.trans (b:=_) (by(repeat(first|exact Below.refl _ _|assumption|apply Below.drew|apply below_more))) (m.mono (by first|exact K _|(simp;done)|(simp;omega)));have x1:=(l.cell (p:=(U n0 0)) l0).trans x0;have y1:=(l.cell (p:=(U n1 0)) l1).trans y0;have aA:=J l0 l.size;have aB:=J l1 l.size;have o:=ze l;clear m l)
  |(go_at_call 102;(with_reducible refine(ud (z _)).mono ?_);rintro e r ⟨rfl,f⟩;have d:Below i.1.size i r:=Below.trans (b:=_) (by(repeat(first|exact Below.refl _ _|assumption|apply Below.drew|apply below_more))) (f.mono (by first|exact K _|(simp;done)|(simp;omega)));have g:=(d.block _ (zd (ud B))).trans (ud B);obtain⟨ae,af,ag,ah,-⟩:=zc g;have ai:=fun j=>zw g j;have aj:=zd g;have L:¬n0=X.1.size:=(by omega);have G:¬X.1.size=n0:=(by omega);have M:¬n1=X.1.size:=(by omega);have H:¬X.1.size=n1:=(by omega);have C:=ze g;clear g;have u:=(d.block _ (zd (ud aw))).trans (ud aw);obtain⟨bf,bg,bh,bi,-⟩:=zc u;have bl:=fun j=>zw u j;have bm:=zd u;have ap:¬n0=X.1.size+1:=(by omega);have am:¬X.1.size+1=n0:=(by omega);have aq:¬n1=X.1.size+1:=(by omega);have an:¬X.1.size+1=n1:=(by omega);have ar:¬X.1.size=X.1.size+1:=(by omega);have ao:¬X.1.size+1=X.1.size:=(by omega);have P:=ze u;clear u;have c:Below X.1.size X r:=(ud o).trans (d.mono (ud o).size);have x2:=(c.cell (p:=(U n0 0)) l0).trans x0;have y2:=(c.cell (p:=(U n1 0)) l1).trans y0;have T:=J l0 c.size;have Z:=J l1 c.size;have A:=ze c;clear f c d)
  |(go_at_call 102;(with_reducible refine(ud (z _)).mono ?_);rintro e r ⟨rfl,f⟩;have n:r.1[i.1.size]?=E (.cells #[I 0,I 0,I 0,I 0] 162 (0,0)):=(f.block _ (by simp)).trans (zhZ _ _);obtain⟨aI,aJ,aK,aL,-⟩:=zc n;have aM:=fun j=>zw n j;have val:=zd n;have a5:¬n0=i.1.size:=(by omega);have a3:¬i.1.size=n0:=(by omega);have a6:¬n1=i.1.size:=(by omega);have a4:¬i.1.size=n1:=(by omega);have aO:¬X.1.size=i.1.size:=(by omega);have aN:¬i.1.size=X.1.size:=(by omega);have D:=ze n;clear n;have d:Below i.1.size i r:=Below.trans (b:=_) (by(repeat(first|exact Below.refl _ _|assumption|apply Below.drew|apply below_more))) (f.mono (by first|exact K _|(simp;done)|(simp;omega)));have g:=(d.block _ (zd (ud B))).trans (ud B);obtain⟨ae,af,ag,ah,-⟩:=zc g;have ai:=fun j=>zw g j;have aj:=zd g;have L:¬n0=X.1.size:=(by omega);have G:¬X.1.size=n0:=(by omega);have M:¬n1=X.1.size:=(by omega);have H:¬X.1.size=n1:=(by omega);have C:=ze g;clear g;have c:Below X.1.size X r:=(ud o).trans (d.mono (ud o).size);have x2:=(c.cell (p:=(U n0 0)) l0).trans x0;have y2:=(c.cell (p:=(U n1 0)) l1).trans y0;have T:=J l0 c.size;have Z:=J l1 c.size;have A:=ze c;clear f c d)
  |(go_at_call 102;(with_reducible refine(ud (z _)).mono ?_);rintro e r ⟨rfl,f⟩;have d:Below i.1.size i r:=Below.trans (b:=_) (by(repeat(first|exact Below.refl _ _|assumption|apply Below.drew|apply below_more))) (f.mono (by first|exact K _|(simp;done)|(simp;omega)));have g:=(d.block _ (zd (ud B))).trans (ud B);obtain⟨ae,af,ag,ah,-⟩:=zc g;have ai:=fun j=>zw g j;have aj:=zd g;have L:¬n0=X.1.size:=(by omega);have G:¬X.1.size=n0:=(by omega);have M:¬n1=X.1.size:=(by omega);have H:¬X.1.size=n1:=(by omega);have C:=ze g;clear g;have c:Below X.1.size X r:=(ud o).trans (d.mono (ud o).size);have x2:=(c.cell (p:=(U n0 0)) l0).trans x0;have y2:=(c.cell (p:=(U n1 0)) l1).trans y0;have T:=J l0 c.size;have Z:=J l1 c.size;have A:=ze c;clear f c d)
  |(go_at_call 102;(with_reducible refine(ud (z _)).mono ?_);rintro e r ⟨rfl,f⟩;have n:r.1[i.1.size]?=E (.cells #[I 0,I 0,I 0,I 0] 162 (0,0)):=(f.block _ (by first|(simp;done)|(simp;omega))).trans (zcX _ _ _);have a7:r.1[i.1.size+1]?=E (.cells #[I 0,I 0,I 0,I 0] 162 (0,0)):=(f.block _ (by simp)).trans (zcY _ _ _);obtain⟨aI,aJ,aK,aL,-⟩:=zc n;have aM:=fun j=>zw n j;have val:=zd n;have a5:¬n0=i.1.size:=(by omega);have a3:¬i.1.size=n0:=(by omega);have a6:¬n1=i.1.size:=(by omega);have a4:¬i.1.size=n1:=(by omega);obtain⟨bB,bC,bD,bE,-⟩:=zc a7;have bF:=fun j=>zw a7 j;have bG:=zd a7;have aS:¬n0=i.1.size+1:=(by omega);have aP:¬i.1.size+1=n0:=(by omega);have aT:¬n1=i.1.size+1:=(by omega);have aQ:¬i.1.size+1=n1:=(by omega);have aU:¬i.1.size=i.1.size+1:=(by omega);have aR:¬i.1.size+1=i.1.size:=(by omega);have D:=ze n;have R:=ze a7;clear n;clear a7;have d:Below i.1.size i r:=Below.trans (b:=_) (by(repeat(first|exact Below.refl _ _|assumption|apply Below.drew|apply below_more))) (f.mono (by first|exact K _|(simp;done)|(simp;omega)));have c:Below X.1.size X r:=(ud o).trans (d.mono (ud o).size);have x2:=(c.cell (p:=(U n0 0)) l0).trans x0;have y2:=(c.cell (p:=(U n1 0)) l1).trans y0;have T:=J l0 c.size;have Z:=J l1 c.size;have A:=ze c;clear f c d)
  |(go_at_call 102;(with_reducible refine(ud (z _)).mono ?_);rintro e r ⟨rfl,f⟩;have n:r.1[i.1.size]?=E (.cells #[I 0,I 0,I 0,I 0] 162 (0,0)):=(f.block _ (by simp)).trans (zhZ _ _);obtain⟨aI,aJ,aK,aL,-⟩:=zc n;have aM:=fun j=>zw n j;have val:=zd n;have a5:¬n0=i.1.size:=(by omega);have a3:¬i.1.size=n0:=(by omega);have a6:¬n1=i.1.size:=(by omega);have a4:¬i.1.size=n1:=(by omega);have D:=ze n;clear n;have d:Below i.1.size i r:=Below.trans (b:=_) (by(repeat(first|exact Below.refl _ _|assumption|apply Below.drew|apply below_more))) (f.mono (by first|exact K _|(simp;done)|(simp;omega)));have c:Below X.1.size X r:=(ud o).trans (d.mono (ud o).size);have x2:=(c.cell (p:=(U n0 0)) l0).trans x0;have y2:=(c.cell (p:=(U n1 0)) l1).trans y0;have T:=J l0 c.size;have Z:=J l1 c.size;have A:=ze c;clear f c d)
  |(go_at_call 102;(with_reducible refine(ud (z _)).mono ?_);rintro e r ⟨rfl,f⟩;have d:Below i.1.size i r:=Below.trans (b:=_) (by(repeat(first|exact Below.refl _ _|assumption|apply Below.drew|apply below_more))) (f.mono (by first|exact K _|(simp;done)|(simp;omega)));have c:Below X.1.size X r:=(ud o).trans (d.mono (ud o).size);have x2:=(c.cell (p:=(U n0 0)) l0).trans x0;have y2:=(c.cell (p:=(U n1 0)) l1).trans y0;have T:=J l0 c.size;have Z:=J l1 c.size;have A:=ze c;clear f c d))
 all_goals show K1 _ _
 all_goals(have hB:=(ud av).trans ((ud A).mono (show n0<=X.1.size by omega));have bq:=(ud A).size;have bp:=(ud o).size)
 all_goals try clear ac
 all_goals try clear ad
 all_goals try clear uan2
 all_goals try clear uan3
 all_goals try clear uan4
 all_goals try clear aa
 all_goals try clear ab
 all_goals try clear uam2
 all_goals try clear uam3
 all_goals try clear uam4
 all_goals try clear aF
 all_goals try clear aG
 all_goals try clear aH
 all_goals try clear ubn3
 all_goals try clear ubn4
 all_goals try clear aC
 all_goals try clear aD
 all_goals try clear aE
 all_goals try clear ubm3
 all_goals try clear ubm4
 all_goals try clear a5
 all_goals try clear a6
 all_goals try clear aO
 all_goals try clear van3
 all_goals try clear van4
 all_goals try clear a3
 all_goals try clear a4
 all_goals try clear aN
 all_goals try clear vam3
 all_goals try clear vam4
 all_goals try clear aS
 all_goals try clear aT
 all_goals try clear aU
 all_goals try clear vbn3
 all_goals try clear vbn4
 all_goals try clear aP
 all_goals try clear aQ
 all_goals try clear aR
 all_goals try clear vbm3
 all_goals try clear vbm4
 all_goals try clear L
 all_goals try clear M
 all_goals try clear uavn2
 all_goals try clear uavn3
 all_goals try clear uavn4
 all_goals try clear G
 all_goals try clear H
 all_goals try clear uavm2
 all_goals try clear uavm3
 all_goals try clear uavm4
 all_goals try clear ap
 all_goals try clear aq
 all_goals try clear ar
 all_goals try clear ubvn3
 all_goals try clear ubvn4
 all_goals try clear am
 all_goals try clear an
 all_goals try clear ao
 all_goals try clear ubvm3
 all_goals try clear ubvm4
 all_goals try clear b8
 all_goals(with_reducible refine ud b3 _ _ _ ?_ ?_ ?_)
 all_goals(try have b6:=zd (ud D))
 all_goals(try have b7:=zd (ud R))
 all_goals(try have b4:=zd (ud C))
 all_goals(try have b5:=zd (ud P))
 all_goals(first
  |(with_reducible exact zcX _ _ _)
  |(with_reducible exact zcY _ _ _)
  |(with_reducible exact zox _ _ _ _ _ _ _)
  |(with_reducible exact zab (ud D) _ _ _ _ _)
  |(with_reducible exact zac (ud D) _ _ _ _ _)
  |(with_reducible exact zab (ud R) _ _ _ _ _)
  |(with_reducible exact zac (ud R) _ _ _ _ _)
  |(with_reducible exact zab (ud C) _ _ _ _ _)
  |(with_reducible exact zac (ud C) _ _ _ _ _)
  |(with_reducible exact zab (ud P) _ _ _ _ _)
  |(with_reducible exact zac (ud P) _ _ _ _ _)
  |(with_reducible exact zoy (by omega) _ _ _ _ _)
  |(with_reducible exact zaA (by omega) (ud D) _ _ _ _ _ _ _ _)
  |(with_reducible exact zaB (by omega) (ud D) _ _ _ _ _ _ _ _)
  |(with_reducible exact zaA (by omega) (ud R) _ _ _ _ _ _ _ _)
  |(with_reducible exact zaB (by omega) (ud R) _ _ _ _ _ _ _ _)
  |(with_reducible exact zaA (by omega) (ud C) _ _ _ _ _ _ _ _)
  |(with_reducible exact zaB (by omega) (ud C) _ _ _ _ _ _ _ _)
  |(with_reducible exact zaA (by omega) (ud P) _ _ _ _ _ _ _ _)
  |(with_reducible exact zaB (by omega) (ud P) _ _ _ _ _ _ _ _)
  |((with_reducible refine bel_aa hB ?_ _ _)<;>omega)
  |((with_reducible refine bel_sa hB ?_ ?_ _ _ _ _ _)<;>omega)
  |((with_reducible refine bel_as hB ?_ ?_ _ _ _ _ _)<;>omega)
  |((with_reducible refine bel_ss hB ?_ ?_ _ _ _ _ _ _ _ _)<;>omega))
end Go.Proofs.YtndhpgciopcncaaGreatDoor.Dr
namespace Go.Proofs.YtndhpgciopcncaaGreatDoor
open Go.RowKit Go.Maps Go.Shelf
variable {c:Cf} {ep:Int} {ns ns':List Nm} {m m':MS}
inductive XK (c:Cf) (ep:Int):MS->List Nm->MS->List Nm->Prop
 |same (m:MS) (ns:List Nm):XK c ep m ns m ns
 |added (m:MS) (ns:List Nm) (x:Nm) (hs:0<=x.sr/\x.sr<4) (hx:0<=x.tm/\x.tm<=m.now) (hl:m.now-c.la<=x.tm) (hv: -2147483648<=x.val/\x.val<=2147483647) (hu:zV m.L+(1+2*yn c m.L x c.n)<=c.qu):XK c ep m ns {m with L:=yv c m.L x} (ns++[x])
 |ticked (m:MS) (ns:List Nm) (n:Int) (TL1 TL':List (Jk×Tsk)) (QL1:List (Tok×Lse)) (hn:1<=n) (hnow:m.now+n<=100000) (he:YQ (m.now+n) m.TL m.QL TL1 QL1) (hq:∀p∈QL1,m.now+n<p.2.til) (hp:xB c {m with now:=m.now+n,TL:=TL1,QL:=QL1} TL'):XK c ep m ns {m with now:=m.now+n,TL:=TL',QL:=QL1} ns
 |taken (m:MS) (ns:List Nm) (p:Jk×Tsk) (slot:Int) (hp:p∈m.TL) (hf:kn m.QL m.now p.2=true):XK c ep m ns {m with num:=m.num+1,QL:=qj m.QL ⟨ep,m.num+1⟩ ⟨p.2.kd,p.2.s,slot,m.now+c.le⟩} ns
 |failed (m:MS) (ns:List Nm) (t:Tok) (g:Lse) (x:Tsk) (hg:zE m.QL t=E g) (hx:zE m.TL g.job=E x):XK c ep m ns {m with TL:=qj m.TL g.job (x.failed m.now),QL:=zT m.QL t} ns
 |rolled (m:MS) (ns:List Nm) (t:Tok) (g:Lse) (s:Sg) (se ti rest:Int) (k:Nat) (TL':List (Jk×Tsk)) (hg:zE m.QL t=E g) (hx:zE m.TL g.job=E ⟨true,s,se,ti,rest⟩) (hk:s.t=k) (hp:xB c {m with L:=qS m.L s ⟨3,xx (xe c m.L s.sr s.wn k)⟩,Gl:=m.Gl,TL:=zT m.TL g.job,QL:=zT m.QL t} TL'):XK c ep m ns {m with L:=qS m.L s ⟨3,xx (xe c m.L s.sr s.wn k)⟩,Gl:=m.Gl,TL:=TL',QL:=zT m.QL t} ns
 |reclaimed (m:MS) (ns:List Nm) (t:Tok) (g:Lse) (s:Sg) (se ti rest:Int) (TL':List (Jk×Tsk)) (hg:zE m.QL t=E g) (hx:zE m.TL g.job=E ⟨false,s,se,ti,rest⟩) (hp:xB c {m with L:=zT m.L s,Gl:=qj m.Gl s (),TL:=zT m.TL g.job,QL:=zT m.QL t} TL'):XK c ep m ns {m with L:=zT m.L s,Gl:=qj m.Gl s (),TL:=TL',QL:=zT m.QL t} ns
theorem VQ{QL:List (Tok×Lse)}{now:Int}{x:Tsk}(h:kn QL now x=true):x.rest<=now/\kr QL x.key=false:=by
 unfold kn at h;simp only[Bool.and_eq_true,Bool.not_eq_true',decide_eq_true_eq]at h;exact h
theorem XK.ok(d:c.ok)(j:c.fits)(h:XK c ep m ns m' ns')(b:SOk c ep m ns.length):SOk c ep m' ns'.length:=by
 cases h with
 |same=>exact b
 |added x l o v w y=>have:=(b.ingest d j l o v w y).1;simpa using this
 |ticked n u TL' r hn f z A a=>exact(b.tick d j hn f z A a).1
 |taken p slot a q=>obtain⟨l,o⟩:=VQ q;exact b.take d a l o slot
 |failed t g x e i=>exact b.fail e i
 |rolled t g s se ti rest k TL' e i B a=>exact(b.roll d j e i _ a).1
 |reclaimed t g s se ti rest TL' e i a=>exact(b.reclaim d j e i a).1
theorem XK.nu(h:XK c ep m ns m' ns'):ns'.length<=ns.length+1:=by
 cases h<;>simp
end Go.Proofs.YtndhpgciopcncaaGreatDoor
