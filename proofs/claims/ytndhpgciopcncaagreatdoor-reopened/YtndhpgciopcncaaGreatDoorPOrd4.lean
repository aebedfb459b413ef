import Derived.Test.YtndhpgciopcncaaGreatDoorPOrd2
open Nat renaming lt_of_lt_of_le → J
open Nat renaming le_refl → K
open Option renaming some → E
open Go renaming World → Q
set_option linter.unusedVariables false
set_option maxHeartbeats 8000000
open Go.Proofs.Tryz
namespace Go.Proofs.YtndhpgciopcncaaGreatDoor.Dr
open Go.RowKit Go.Maps Go.Shelf
theorem kind_Roll(s:Sg)(w:Q):Calls prog 334 #[.agg #[I s.t,I s.sr,I s.wn]] w fun e w'=>e=.returned (I 1)/\Below w.1.size w w':=by
 go_enter func334,ntmps334
 go_wp2_with fail
 go_ret
 exact⟨rfl,(Below.refl _ _).alloc (K _) _⟩
theorem segm_Roll(s:Sg)(w:Q):Calls prog 335 #[.agg #[I s.t,I s.sr,I s.wn]] w fun e w'=>e=.returned (.agg #[I s.t,I s.sr,I s.wn])/\Below w.1.size w w':=by
 obtain⟨c,b,a,d⟩:=box2 w (.cells #[I s.t,I s.sr,I s.wn] 195) (.cells #[I s.t,I s.sr,I s.wn] 146)
 go_enter func335,ntmps335
 go_wp2_with fail
 refine bodyPost_ret (v:=.agg #[I s.t,I s.sr,I s.wn]) (results_cell_row results335 _ _ (w.1.size+1) _ _ _ _ rfl b underlying146 rfl (by kernel_rfl)) rfl ?_
 exact⟨rfl,a⟩
theorem keyOf_Roll(s:Sg)(w:Q):Calls prog 102 #[.iface 195 (.agg #[I s.t,I s.sr,I s.wn])] w fun e w'=>e=.returned (.agg #[I 1,I s.t,I s.sr,I s.wn])/\Below w.1.size w w':=by
 have b0:=zp w zbY
 have m:=zN w zbY
 have g:Below w.1.size w (w.alloc zbY):=(Below.refl _ _).alloc (K _) _
 have q:=fun W=>ze (kind_Roll s W)
 have r:=fun W=>ze (segm_Roll s W)
 have n:=ze b0
 have o:=ze m
 have h:=ze g
 clear b0 m g
 have y:=vR s
 have z:=jk s
 go_enter func102,ntmps102
 go_wp2_with(first
  |(go_at_call 334;refine(ud (q _)).mono ?_;rintro e A ⟨rfl,a⟩;have c:=ze a;clear a)
  |(go_at_call 335;refine(ud (r _)).mono ?_;rintro e B ⟨rfl,b⟩;have d:w.1.size<(w.alloc zbY).1.size:=(by rw[ud o];omega);have f:=(b.block w.1.size (J d (ud c).size)).trans (((ud c).block w.1.size d).trans (ud n));obtain⟨C,D,F,G,-⟩:=zc f;have H:=fun j=>zv f j;have x:=zd f;have p:=ze f;have k:=ze b;clear b f d))
 have u:=xy (i:=3) (xy (i:=2) (xy (i:=1) (xy (i:=0) (ud p) (I 1)) (I s.t)) (I s.sr)) (I s.wn)
 refine bodyPost_ret (v:=.agg #[I 1,I s.t,I s.sr,I s.wn]) (results_cell_row results102 _ _ w.1.size _ _ _ _ rfl u underlying162 rfl (by kernel_rfl)) rfl ?_
 have l:=ud h
 have a:=ud c
 have b:=ud k
 exact⟨rfl,(l.trans (a.mono l.size)).trans ((b.mono (Nat.le_trans l.size a.size)).trans (below4 (K _) _ _ _ _))⟩
theorem kind_Reclaim(s:Sg)(w:Q):Calls prog 337 #[.agg #[I s.t,I s.sr,I s.wn]] w fun e w'=>e=.returned (I 2)/\Below w.1.size w w':=by
 go_enter func337,ntmps337
 go_wp2_with fail
 go_ret
 exact⟨rfl,(Below.refl _ _).alloc (K _) _⟩
theorem segm_Reclaim(s:Sg)(w:Q):Calls prog 338 #[.agg #[I s.t,I s.sr,I s.wn]] w fun e w'=>e=.returned (.agg #[I s.t,I s.sr,I s.wn])/\Below w.1.size w w':=by
 obtain⟨c,b,a,d⟩:=box2 w (.cells #[I s.t,I s.sr,I s.wn] 197) (.cells #[I s.t,I s.sr,I s.wn] 146)
 go_enter func338,ntmps338
 go_wp2_with fail
 refine bodyPost_ret (v:=.agg #[I s.t,I s.sr,I s.wn]) (results_cell_row results338 _ _ (w.1.size+1) _ _ _ _ rfl b underlying146 rfl (by kernel_rfl)) rfl ?_
 exact⟨rfl,a⟩
theorem keyOf_Reclaim(s:Sg)(w:Q):Calls prog 102 #[.iface 197 (.agg #[I s.t,I s.sr,I s.wn])] w fun e w'=>e=.returned (.agg #[I 2,I s.t,I s.sr,I s.wn])/\Below w.1.size w w':=by
 have b0:=zp w zbY
 have m:=zN w zbY
 have g:Below w.1.size w (w.alloc zbY):=(Below.refl _ _).alloc (K _) _
 have q:=fun W=>ze (kind_Reclaim s W)
 have r:=fun W=>ze (segm_Reclaim s W)
 have n:=ze b0
 have o:=ze m
 have h:=ze g
 clear b0 m g
 have y:=kf s
 have z:=kD s
 go_enter func102,ntmps102
 go_wp2_with(first
  |(go_at_call 337;refine(ud (q _)).mono ?_;rintro e A ⟨rfl,a⟩;have c:=ze a;clear a)
  |(go_at_call 338;refine(ud (r _)).mono ?_;rintro e B ⟨rfl,b⟩;have d:w.1.size<(w.alloc zbY).1.size:=(by rw[ud o];omega);have f:=(b.block w.1.size (J d (ud c).size)).trans (((ud c).block w.1.size d).trans (ud n));obtain⟨C,D,F,G,-⟩:=zc f;have H:=fun j=>zv f j;have x:=zd f;have p:=ze f;have k:=ze b;clear b f d))
 have u:=xy (i:=3) (xy (i:=2) (xy (i:=1) (xy (i:=0) (ud p) (I 2)) (I s.t)) (I s.sr)) (I s.wn)
 refine bodyPost_ret (v:=.agg #[I 2,I s.t,I s.sr,I s.wn]) (results_cell_row results102 _ _ w.1.size _ _ _ _ rfl u underlying162 rfl (by kernel_rfl)) rfl ?_
 have l:=ud h
 have a:=ud c
 have b:=ud k
 exact⟨rfl,(l.trans (a.mono l.size)).trans ((b.mono (Nat.le_trans l.size a.size)).trans (below4 (K _) _ _ _ _))⟩
theorem keyOf_any(x:Tsk)(w:Q):Calls prog 102 #[(jZz x)] w fun e w'=>e=.returned (.agg #[I x.kd,I x.s.t,I x.s.sr,I x.s.wn])/\Below w.1.size w w':=by
 obtain⟨d,s,a,b,c⟩:=x
 cases d with
 |true=>exact keyOf_Roll s w
 |false=>exact keyOf_Reclaim s w
theorem below_more{a w:Q}(h:Below a.1.size a w)(o:Obj):Below a.1.size a (w.alloc o):=h.alloc h.size o
theorem below4s{B:Nat}{w:Q}{g:Nat}(h:B<=g)(a b c d:Value):Below B w (kM w g a b c d):=((((Below.refl _ _).setCell (p:=(U g 0)) h _).setCell (p:=(U g 1)) h _).setCell (p:=(U g 2)) h _).setCell (p:=(U g 3)) h _
theorem bel_aa{a:Nat}{w V:Q}(h:Below a w V)(c:a<=V.1.size)(o b:Obj):Below a w ((V.alloc o).alloc b):=(h.alloc c o).alloc (by rw[zN];omega) b
theorem bel_sa{e g:Nat}{w V:Q}(h:Below e w V)(f:e<=V.1.size)(i:e<=g)(a b c d:Value)(o:Obj):Below e w ((kM V g a b c d).alloc o):=(h.trans (below4s i a b c d)).alloc (by rw[zes];exact f) o
theorem bel_as{e g:Nat}{w V:Q}(h:Below e w V)(f:e<=V.1.size)(i:e<=g)(a b c d:Value)(o:Obj):Below e w (kM (V.alloc o) g a b c d):=(h.alloc f o).trans (below4s i a b c d)
theorem bel_ss{e g k:Nat}{w V:Q}(h:Below e w V)(l:e<=g)(m:e<=k)(a b c d f b' i j:Value):Below e w (kM (kM V g a b c d) k f b' i j):=(h.trans (below4s l a b c d)).trans (below4s m f b' i j)
theorem byKey_any(x y:Tsk)(w:Q):
  Calls prog 106 #[.agg (tZz x),.agg (tZz y)] w fun e w'=>e=.returned (I (qp x y))/\Below w.1.size w w':=by
 have aa:=fun W=>ze (keyOf_any x W)
 have C:=fun W=>ze (keyOf_any y W)
 obtain⟨b1,b2,aA,bz⟩:=box2 w (.cells (tZz x) 177) (.cells (tZz y) 177)
 obtain⟨x0,-⟩:=zc b1
 obtain⟨y0,-⟩:=zc b2
 have ax:=ze aA
 clear b1 b2 aA
 go_enter func106,ntmps106
 go_wp2_with fail
 generalize((w.alloc (.cells (tZz x) 177)).alloc (.cells (tZz y) 177))=X at*
 have z:w.1.size<X.1.size:=by omega
 have A:w.1.size+1<X.1.size:=by omega
 have ba:¬w.1.size=w.1.size+1:=by omega
 generalize w.1.size+1=n1 at*
 generalize aB:w.1.size=m at*
 clear bz
 rename_i Q1 K1 hK1
 have ab:∀(L bk:Nat) (Y:Q),Y.1[L]?=E (.cells #[I x.kd,I x.s.t,I x.s.sr,I x.s.wn] 162 (0,0))->Y.1[bk]?=E (.cells #[I y.kd,I y.s.t,I y.s.sr,I y.s.wn] 162 (0,0))->Below m w Y->K1 {tmps:=#[.agg (tZz x),.agg (tZz y),(O m),(O n1),I 0,(O L),(O bk),(O m),(jZz x),.agg #[I x.kd,I x.s.t,I x.s.sr,I x.s.wn],(O n1),(jZz y),.agg #[I y.kd,I y.s.t,I y.s.sr,I y.s.wn],undef,undef,undef,undef,undef,undef,undef,undef,undef,undef,undef,undef],defers:=[]} Y:=by
  intro L bk Y hj hk hY
  apply hK1
  clear aa C x0 y0 z A ax hK1
  have HY:=ze hY
  clear hY
  have aX:=fun(a b:Int) W=>ze (kH a b W)
  have am:∀V W:Q,W.1[V.1.size]?=E (.cells #[I (vE x.kd y.kd),I (zdZ x.s y.s)] 3)->Hid (Calls prog 163 #[.slice (E (U V.1.size 0)) 2 2] W fun e w'=>e=.returned (I (qp x y))/\w'=W):=fun V W hW=>by
   have h:=ziE [vE x.kd y.kd,zdZ x.s y.s] (by simp) W V.1.size (fun k v hk=>by
    rw[xH hW]
    match k,hk with
    |0,hk=>simp at hk;subst hk;rfl
    |1,hk=>simp at hk;subst hk;rfl)
   rw[zeP]at h
   exact h
  have aY:=ze (QD x.s y.s Y)
  have aZ:=ze (QD x.s y.s Y.drew)
  obtain⟨j0,j1,j2,j3,-⟩:=zc hj
  obtain⟨k0,k1,k2,k3,-⟩:=zc hk
  have a2:=zd hj
  have a3:=zd hk
  clear hj hk
  generalize az:qp x y=BV at*
  have aw:=ze az
  clear az
  generalize bp:vE x.kd y.kd=C0 at*
  generalize bq:zdZ x.s y.s=C1 at*
  go_wp2_with fail
  go_region_held3 (fun w'=>w'.cell? (U L 0)=E (I x.kd)/\w'.cell? (U L 1)=E (I x.s.t)/\w'.cell? (U L 2)=E (I x.s.sr)/\w'.cell? (U L 3)=E (I x.s.wn)/\w'.cell? (U bk 0)=E (I y.kd)/\w'.cell? (U bk 1)=E (I y.s.t)/\w'.cell? (U bk 2)=E (I y.s.sr)/\w'.cell? (U bk 3)=E (I y.s.wn)) (go_keep) (first
   |(go_at_call 162;(with_reducible refine(ud (aX _ _ _)).mono ?_);rintro e V0 ⟨rfl,rfl⟩)
   |(go_at_call 166;(first|(with_reducible refine(ud aY).mono ?_)|(with_reducible refine(ud aZ).mono ?_));rintro e V ⟨rfl,an⟩;have S:Dr.Below Y.1.size Y V:=(by first|exact an|exact((Dr.Below.refl Y.1.size Y).drew).trans an);have bJ:Cz V L 0 (I x.kd):=(S.cell (p:=(U L 0)) a2).trans j0;have bK:Cz V L 1 (I x.s.t):=(S.cell (p:=(U L 1)) a2).trans j1;have bL:Cz V L 2 (I x.s.sr):=(S.cell (p:=(U L 2)) a2).trans j2;have bM:Cz V L 3 (I x.s.wn):=(S.cell (p:=(U L 3)) a2).trans j3;have bN:Cz V bk 0 (I y.kd):=(S.cell (p:=(U bk 0)) a3).trans k0;have bO:Cz V bk 1 (I y.s.t):=(S.cell (p:=(U bk 1)) a3).trans k1;have bP:Cz V bk 2 (I y.s.sr):=(S.cell (p:=(U bk 2)) a3).trans k2;have bQ:Cz V bk 3 (I y.s.wn):=(S.cell (p:=(U bk 3)) a3).trans k3;have bt:=J a2 S.size;have bu:=J a3 S.size;have b0:=am V (V.alloc (.cells #[I C0,I C1] 3)) (zp _ _);have b3:=am V (V.alloc (.cells #[I C0,I C1] 3)).drew (zp _ _);have b4:=am V (V.drew.alloc (.cells #[I C0,I C1] 3)) (zp V.drew _);have HV:=ze S;clear S an)
   |(go_at_call 163;(first|(with_reducible refine(ud b0).mono ?_)|(with_reducible refine(ud b3).mono ?_)|(with_reducible refine(ud b4).mono ?_));rintro e V9 ⟨rfl,rfl⟩))
  all_goals go_wp2_with fail
  all_goals go_ret
  all_goals have hY:=(ud HY).trans ((ud HV).mono (by have:=(ud HY).size;omega))
  all_goals first|exact⟨by rw[ud aw];rfl,by rw[aB];exact hY.alloc (by have:=hY.size;omega) _⟩|exact⟨by rw[ud aw];rfl,by rw[aB];exact(hY.alloc (by have:=hY.size;omega) _).drew⟩
 have b5:=ze ab
 clear hK1 ab
 go_region_held3 (fun w'=>w'.cell? (U m 0)=E (jZz x)/\w'.cell? (U n1 0)=E (jZz y)) (go_keep) (first
  |(go_at_call 102;(with_reducible refine(ud (aa _)).mono ?_);rintro e i ⟨rfl,n⟩;have r:i.1[X.1.size]?=E (.cells #[I 0,I 0,I 0,I 0] 162 (0,0)):=(n.block _ (by first|(simp;done)|(simp;omega))).trans (zcr _ _ _);have a4:i.1[X.1.size+1]?=E (.cells #[I 0,I 0,I 0,I 0] 162 (0,0)):=(n.block _ (by simp)).trans (zcs _ _ _);obtain⟨bb,bc,bd,be,-⟩:=zc r;have bf:=fun j=>zv r j;have bg:=zd r;have ae:¬m=X.1.size:=(by omega);have ac:¬X.1.size=m:=(by omega);have af:¬n1=X.1.size:=(by omega);have ad:¬X.1.size=n1:=(by omega);obtain⟨bv,bw,bx,bA,-⟩:=zc a4;have bB:=fun j=>zv a4 j;have bC:=zd a4;have aH:¬m=X.1.size+1:=(by omega);have aE:¬X.1.size+1=m:=(by omega);have aI:¬n1=X.1.size+1:=(by omega);have aF:¬X.1.size+1=n1:=(by omega);have aJ:¬X.1.size=X.1.size+1:=(by omega);have aG:¬X.1.size+1=X.1.size:=(by omega);have F:=ze r;have ay:=ze a4;clear r;clear a4;have l:Below X.1.size X i:=Below.trans (b:=_) (by(repeat(first|exact Below.refl _ _|assumption|apply Below.drew|apply below_more))) (n.mono (by first|exact K _|(simp;done)|(simp;omega)));have x1:=(l.cell (p:=(U m 0)) z).trans x0;have y1:=(l.cell (p:=(U n1 0)) A).trans y0;have aC:=J z l.size;have aD:=J A l.size;have q:=ze l;clear n l)
  |(go_at_call 102;(with_reducible refine(ud (aa _)).mono ?_);rintro e i ⟨rfl,n⟩;have r:i.1[X.1.size]?=E (.cells #[I 0,I 0,I 0,I 0] 162 (0,0)):=(n.block _ (by simp)).trans (zhO _ _);obtain⟨bb,bc,bd,be,-⟩:=zc r;have bf:=fun j=>zv r j;have bg:=zd r;have ae:¬m=X.1.size:=(by omega);have ac:¬X.1.size=m:=(by omega);have af:¬n1=X.1.size:=(by omega);have ad:¬X.1.size=n1:=(by omega);have F:=ze r;clear r;have l:Below X.1.size X i:=Below.trans (b:=_) (by(repeat(first|exact Below.refl _ _|assumption|apply Below.drew|apply below_more))) (n.mono (by first|exact K _|(simp;done)|(simp;omega)));have x1:=(l.cell (p:=(U m 0)) z).trans x0;have y1:=(l.cell (p:=(U n1 0)) A).trans y0;have aC:=J z l.size;have aD:=J A l.size;have q:=ze l;clear n l)
  |(go_at_call 102;(with_reducible refine(ud (aa _)).mono ?_);rintro e i ⟨rfl,n⟩;have l:Below X.1.size X i:=Below.trans (b:=_) (by(repeat(first|exact Below.refl _ _|assumption|apply Below.drew|apply below_more))) (n.mono (by first|exact K _|(simp;done)|(simp;omega)));have x1:=(l.cell (p:=(U m 0)) z).trans x0;have y1:=(l.cell (p:=(U n1 0)) A).trans y0;have aC:=J z l.size;have aD:=J A l.size;have q:=ze l;clear n l)
  |(go_at_call 102;(with_reducible refine(ud (C _)).mono ?_);rintro e u ⟨rfl,f⟩;have d:Below i.1.size i u:=Below.trans (b:=_) (by(repeat(first|exact Below.refl _ _|assumption|apply Below.drew|apply below_more))) (f.mono (by first|exact K _|(simp;done)|(simp;omega)));have g:=(d.block _ (zd (ud F))).trans (ud F);obtain⟨ag,ah,ai,aj,-⟩:=zc g;have ak:=fun j=>zv g j;have al:=zd g;have P:¬m=X.1.size:=(by omega);have M:¬X.1.size=m:=(by omega);have R:¬n1=X.1.size:=(by omega);have N:¬X.1.size=n1:=(by omega);have G:=ze g;clear g;have B:=(d.block _ (zd (ud ay))).trans (ud ay);obtain⟨bh,bi,bl,bm,-⟩:=zc B;have bn:=fun j=>zv B j;have bo:=zd B;have ar:¬m=X.1.size+1:=(by omega);have ao:¬X.1.size+1=m:=(by omega);have au:¬n1=X.1.size+1:=(by omega);have ap:¬X.1.size+1=n1:=(by omega);have av:¬X.1.size=X.1.size+1:=(by omega);have aq:¬X.1.size+1=X.1.size:=(by omega);have T:=ze B;clear B;have c:Below X.1.size X u:=(ud q).trans (d.mono (ud q).size);have x2:=(c.cell (p:=(U m 0)) z).trans x0;have y2:=(c.cell (p:=(U n1 0)) A).trans y0;have a0:=J z c.size;have a1:=J A c.size;have D:=ze c;clear f c d)
  |(go_at_call 102;(with_reducible refine(ud (C _)).mono ?_);rintro e u ⟨rfl,f⟩;have o:u.1[i.1.size]?=E (.cells #[I 0,I 0,I 0,I 0] 162 (0,0)):=(f.block _ (by simp)).trans (zhO _ _);obtain⟨aK,aL,aM,aN,-⟩:=zc o;have aO:=fun j=>zv o j;have val:=zd o;have a7:¬m=i.1.size:=(by omega);have a5:¬i.1.size=m:=(by omega);have a8:¬n1=i.1.size:=(by omega);have a6:¬i.1.size=n1:=(by omega);have aQ:¬X.1.size=i.1.size:=(by omega);have aP:¬i.1.size=X.1.size:=(by omega);have H:=ze o;clear o;have d:Below i.1.size i u:=Below.trans (b:=_) (by(repeat(first|exact Below.refl _ _|assumption|apply Below.drew|apply below_more))) (f.mono (by first|exact K _|(simp;done)|(simp;omega)));have g:=(d.block _ (zd (ud F))).trans (ud F);obtain⟨ag,ah,ai,aj,-⟩:=zc g;have ak:=fun j=>zv g j;have al:=zd g;have P:¬m=X.1.size:=(by omega);have M:¬X.1.size=m:=(by omega);have R:¬n1=X.1.size:=(by omega);have N:¬X.1.size=n1:=(by omega);have G:=ze g;clear g;have c:Below X.1.size X u:=(ud q).trans (d.mono (ud q).size);have x2:=(c.cell (p:=(U m 0)) z).trans x0;have y2:=(c.cell (p:=(U n1 0)) A).trans y0;have a0:=J z c.size;have a1:=J A c.size;have D:=ze c;clear f c d)
  |(go_at_call 102;(with_reducible refine(ud (C _)).mono ?_);rintro e u ⟨rfl,f⟩;have d:Below i.1.size i u:=Below.trans (b:=_) (by(repeat(first|exact Below.refl _ _|assumption|apply Below.drew|apply below_more))) (f.mono (by first|exact K _|(simp;done)|(simp;omega)));have g:=(d.block _ (zd (ud F))).trans (ud F);obtain⟨ag,ah,ai,aj,-⟩:=zc g;have ak:=fun j=>zv g j;have al:=zd g;have P:¬m=X.1.size:=(by omega);have M:¬X.1.size=m:=(by omega);have R:¬n1=X.1.size:=(by omega);have N:¬X.1.size=n1:=(by omega);have G:=ze g;clear g;have c:Below X.1.size X u:=(ud q).trans (d.mono (ud q).size);have x2:=(c.cell (p:=(U m 0)) z).trans x0;have y2:=(c.cell (p:=(U n1 0)) A).trans y0;have a0:=J z c.size;have a1:=J A c.size;have D:=ze c;clear f c d)
  |(go_at_call 102;(with_reducible refine(ud (C _)).mono ?_);rintro e u ⟨rfl,f⟩;have o:u.1[i.1.size]?=E (.cells #[I 0,I 0,I 0,I 0] 162 (0,0)):=(f.block _ (by first|(simp;done)|(simp;omega))).trans (zcr _ _ _);have a9:u.1[i.1.size+1]?=E (.cells #[I 0,I 0,I 0,I 0] 162 (0,0)):=(f.block _ (by simp)).trans (zcs _ _ _);obtain⟨aK,aL,aM,aN,-⟩:=zc o;have aO:=fun j=>zv o j;have val:=zd o;have a7:¬m=i.1.size:=(by omega);have a5:¬i.1.size=m:=(by omega);have a8:¬n1=i.1.size:=(by omega);have a6:¬i.1.size=n1:=(by omega);obtain⟨bD,bE,bF,bG,-⟩:=zc a9;have bH:=fun j=>zv a9 j;have bI:=zd a9;have aU:¬m=i.1.size+1:=(by omega);have aR:¬i.1.size+1=m:=(by omega);have aV:¬n1=i.1.size+1:=(by omega);have aS:¬i.1.size+1=n1:=(by omega);have aW:¬i.1.size=i.1.size+1:=(by omega);have aT:¬i.1.size+1=i.1.size:=(by omega);have H:=ze o;have Z:=ze a9;clear o;clear a9;have d:Below i.1.size i u:=Below.trans (b:=_) (by(repeat(first|exact Below.refl _ _|assumption|apply Below.drew|apply below_more))) (f.mono (by first|exact K _|(simp;done)|(simp;omega)));have c:Below X.1.size X u:=(ud q).trans (d.mono (ud q).size);have x2:=(c.cell (p:=(U m 0)) z).trans x0;have y2:=(c.cell (p:=(U n1 0)) A).trans y0;have a0:=J z c.size;have a1:=J A c.size;have D:=ze c;clear f c d)
  |(go_at_call 102;(with_reducible refine(ud (C _)).mono ?_);rintro e u ⟨rfl,f⟩;have o:u.1[i.1.size]?=E (.cells #[I 0,I 0,I 0,I 0] 162 (0,0)):=(f.block _ (by simp)).trans (zhO _ _);obtain⟨aK,aL,aM,aN,-⟩:=zc o;have aO:=fun j=>zv o j;have val:=zd o;have a7:¬m=i.1.size:=(by omega);have a5:¬i.1.size=m:=(by omega);have a8:¬n1=i.1.size:=(by omega);have a6:¬i.1.size=n1:=(by omega);have H:=ze o;clear o;have d:Below i.1.size i u:=Below.trans (b:=_) (by(repeat(first|exact Below.refl _ _|assumption|apply Below.drew|apply below_more))) (f.mono (by first|exact K _|(simp;done)|(simp;omega)));have c:Below X.1.size X u:=(ud q).trans (d.mono (ud q).size);have x2:=(c.cell (p:=(U m 0)) z).trans x0;have y2:=(c.cell (p:=(U n1 0)) A).trans y0;have a0:=J z c.size;have a1:=J A c.size;have D:=ze c;clear f c d)
  |(go_at_call 102;(with_reducible refine(ud (C _)).mono ?_);rintro e u ⟨rfl,f⟩;have d:Below i.1.size i u:=Below.trans (b:=_) (by(repeat(first|exact Below.refl _ _|assumption|apply Below.drew|apply below_more))) (f.mono (by first|exact K _|(simp;done)|(simp;omega)));have c:Below X.1.size X u:=(ud q).trans (d.mono (ud q).size);have x2:=(c.cell (p:=(U m 0)) z).trans x0;have y2:=(c.cell (p:=(U n1 0)) A).trans y0;have a0:=J z c.size;have a1:=J A c.size;have D:=ze c;clear f c d))
 all_goals show K1 _ _
 all_goals(have hB:=(ud ax).trans ((ud D).mono (show m<=X.1.size by omega));have bs:=(ud D).size;have br:=(ud q).size)
 all_goals try clear ae
 all_goals try clear af
 all_goals try clear uan2
 all_goals try clear uan3
 all_goals try clear uan4
 all_goals try clear ac
 all_goals try clear ad
 all_goals try clear uam2
 all_goals try clear uam3
 all_goals try clear uam4
 all_goals try clear aH
 all_goals try clear aI
 all_goals try clear aJ
 all_goals try clear ubn3
 all_goals try clear ubn4
 all_goals try clear aE
 all_goals try clear aF
 all_goals try clear aG
 all_goals try clear ubm3
 all_goals try clear ubm4
 all_goals try clear a7
 all_goals try clear a8
 all_goals try clear aQ
 all_goals try clear van3
 all_goals try clear van4
 all_goals try clear a5
 all_goals try clear a6
 all_goals try clear aP
 all_goals try clear vam3
 all_goals try clear vam4
 all_goals try clear aU
 all_goals try clear aV
 all_goals try clear aW
 all_goals try clear vbn3
 all_goals try clear vbn4
 all_goals try clear aR
 all_goals try clear aS
 all_goals try clear aT
 all_goals try clear vbm3
 all_goals try clear vbm4
 all_goals try clear P
 all_goals try clear R
 all_goals try clear uavn2
 all_goals try clear uavn3
 all_goals try clear uavn4
 all_goals try clear M
 all_goals try clear N
 all_goals try clear uavm2
 all_goals try clear uavm3
 all_goals try clear uavm4
 all_goals try clear ar
 all_goals try clear au
 all_goals try clear av
 all_goals try clear ubvn3
 all_goals try clear ubvn4
 all_goals try clear ao
 all_goals try clear ap
 all_goals try clear aq
 all_goals try clear ubvm3
 all_goals try clear ubvm4
 all_goals try clear ba
 all_goals(with_reducible refine ud b5 _ _ _ ?_ ?_ ?_)
 all_goals(try have b8:=zd (ud H))
 all_goals(try have b9:=zd (ud Z))
 all_goals(try have b6:=zd (ud G))
 all_goals(try have b7:=zd (ud T))
 all_goals(first
  |(with_reducible exact zcr _ _ _)
  |(with_reducible exact zcs _ _ _)
  |(with_reducible exact znW _ _ _ _ _ _ _)
  |(with_reducible exact JA (ud H) _ _ _ _ _)
  |(with_reducible exact JC (ud H) _ _ _ _ _)
  |(with_reducible exact JA (ud Z) _ _ _ _ _)
  |(with_reducible exact JC (ud Z) _ _ _ _ _)
  |(with_reducible exact JA (ud G) _ _ _ _ _)
  |(with_reducible exact JC (ud G) _ _ _ _ _)
  |(with_reducible exact JA (ud T) _ _ _ _ _)
  |(with_reducible exact JC (ud T) _ _ _ _ _)
  |(with_reducible exact znX (by omega) _ _ _ _ _)
  |(with_reducible exact zab (by omega) (ud H) _ _ _ _ _ _ _ _)
  |(with_reducible exact zac (by omega) (ud H) _ _ _ _ _ _ _ _)
  |(with_reducible exact zab (by omega) (ud Z) _ _ _ _ _ _ _ _)
  |(with_reducible exact zac (by omega) (ud Z) _ _ _ _ _ _ _ _)
  |(with_reducible exact zab (by omega) (ud G) _ _ _ _ _ _ _ _)
  |(with_reducible exact zac (by omega) (ud G) _ _ _ _ _ _ _ _)
  |(with_reducible exact zab (by omega) (ud T) _ _ _ _ _ _ _ _)
  |(with_reducible exact zac (by omega) (ud T) _ _ _ _ _ _ _ _)
  |((with_reducible refine bel_aa hB ?_ _ _)<;>omega)
  |((with_reducible refine bel_sa hB ?_ ?_ _ _ _ _ _)<;>omega)
  |((with_reducible refine bel_as hB ?_ ?_ _ _ _ _ _)<;>omega)
  |((with_reducible refine bel_ss hB ?_ ?_ _ _ _ _ _ _ _ _)<;>omega))
end Go.Proofs.YtndhpgciopcncaaGreatDoor.Dr
namespace Go.Proofs.YtndhpgciopcncaaGreatDoor
open Go.RowKit Go.Maps Go.Shelf
inductive yL (c:Cf) (ep:Int):MS->List Nm->MS->List Nm->Prop
 |same (m:MS) (ns:List Nm):yL c ep m ns m ns
 |added (m:MS) (ns:List Nm) (x:Nm) (hs:0<=x.sr/\x.sr<4) (hx:0<=x.tm/\x.tm<=m.now) (hl:m.now-c.la<=x.tm) (hv: -2147483648<=x.val/\x.val<=2147483647) (hu:zJ m.L+(1+2*qO c m.L x c.n)<=c.qu):yL c ep m ns {m with L:=yu c m.L x} (ns++[x])
 |ticked (m:MS) (ns:List Nm) (n:Int) (TL1 TL':List (Jk×Tsk)) (QL1:List (Tok×Lse)) (hn:1<=n) (hnow:m.now+n<=100000) (he:zag (m.now+n) m.TL m.QL TL1 QL1) (hq:∀p∈QL1,m.now+n<p.2.til) (hp:xA c {m with now:=m.now+n,TL:=TL1,QL:=QL1} TL'):yL c ep m ns {m with now:=m.now+n,TL:=TL',QL:=QL1} ns
 |taken (m:MS) (ns:List Nm) (p:Jk×Tsk) (slot:Int) (hp:p∈m.TL) (hf:yO m.QL m.now p.2=true):yL c ep m ns {m with num:=m.num+1,QL:=xZ m.QL ⟨ep,m.num+1⟩ ⟨p.2.kd,p.2.s,slot,m.now+c.le⟩} ns
 |failed (m:MS) (ns:List Nm) (t:Tok) (g:Lse) (x:Tsk) (hg:zD m.QL t=E g) (hx:zD m.TL g.job=E x):yL c ep m ns {m with TL:=xZ m.TL g.job (x.failed m.now),QL:=xa m.QL t} ns
 |rolled (m:MS) (ns:List Nm) (t:Tok) (g:Lse) (s:Sg) (se ti rest:Int) (k:Nat) (TL':List (Jk×Tsk)) (hg:zD m.QL t=E g) (hx:zD m.TL g.job=E ⟨true,s,se,ti,rest⟩) (hk:s.t=k) (hp:xA c {m with L:=qT m.L s ⟨3,xv (xo c m.L s.sr s.wn k)⟩,Gl:=m.Gl,TL:=xa m.TL g.job,QL:=xa m.QL t} TL'):yL c ep m ns {m with L:=qT m.L s ⟨3,xv (xo c m.L s.sr s.wn k)⟩,Gl:=m.Gl,TL:=TL',QL:=xa m.QL t} ns
 |reclaimed (m:MS) (ns:List Nm) (t:Tok) (g:Lse) (s:Sg) (se ti rest:Int) (TL':List (Jk×Tsk)) (hg:zD m.QL t=E g) (hx:zD m.TL g.job=E ⟨false,s,se,ti,rest⟩) (hp:xA c {m with L:=xa m.L s,Gl:=xZ m.Gl s (),TL:=xa m.TL g.job,QL:=xa m.QL t} TL'):yL c ep m ns {m with L:=xa m.L s,Gl:=xZ m.Gl s (),TL:=TL',QL:=xa m.QL t} ns
theorem Vu{QL:List (Tok×Lse)}{now:Int}{x:Tsk}(h:yO QL now x=true):x.rest<=now/\k7 QL x.key=false:=by
 unfold yO at h
 simp only[Bool.and_eq_true,Bool.not_eq_true',decide_eq_true_eq]at h
 exact h
theorem yL.ok{c:Cf}{ep:Int}{m m':MS}{ns l:List Nm}(e:c.ok)(o:c.fits)(h:yL c ep m ns m' l)(b:SOk c ep m ns.length):SOk c ep m' l.length:=by
 cases h with
 |same=>exact b
 |added x q r y z A=>have:=(b.ingest e o q r y z A).1;simpa using this
 |ticked n w d v hn i B C a=>exact(b.tick e o hn i B C a).1
 |taken p slot a u=>obtain⟨q,r⟩:=Vu u;exact b.take e a q r slot
 |failed t g x f j=>exact b.fail f j
 |rolled t g s se ti rest k d f j D a=>exact(b.roll e o f j _ a).1
 |reclaimed t g s se ti rest d f j a=>exact(b.reclaim e o f j a).1
theorem yL.nu{c:Cf}{ep:Int}{m m':MS}{ns a:List Nm}(h:yL c ep m ns m' a):a.length<=ns.length+1:=by
 cases h<;>simp
end Go.Proofs.YtndhpgciopcncaaGreatDoor
