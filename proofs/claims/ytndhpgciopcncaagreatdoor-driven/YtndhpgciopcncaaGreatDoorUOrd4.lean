import Derived.Test.YtndhpgciopcncaaGreatDoorUOrd2
import Derived.Test.YtndhpgciopcncaaGreatDoorUMod2
open Go.Value renaming int → I
open Go.IntKind renaming i64 → J
open Nat renaming lt_of_lt_of_le → K
open Option renaming none → O
open Nat renaming le_refl → E
open Option renaming some → Q
open Go renaming World → U
set_option linter.unusedVariables false
set_option maxHeartbeats 8000000
open Go.Proofs.Tryz
namespace Go.Proofs.YtndhpgciopcncaaGreatDoor.Dr
open Go.RowKit Go.Maps Go.Shelf
theorem kind_Roll(s:Sg)(w:U):Calls prog 334 #[.agg #[I J s.t,I J s.sr,I J s.wa]] w fun e w'=>e=.returned (I J 1)/\Below w.1.size w w':=by
 go_enter func334,ntmps334
 go_wp2_with fail
 go_ret
 exact⟨rfl,(Below.refl _ _).alloc (E _) _⟩
theorem segm_Roll(s:Sg)(w:U):Calls prog 335 #[.agg #[I J s.t,I J s.sr,I J s.wa]] w fun e w'=>e=.returned (.agg #[I J s.t,I J s.sr,I J s.wa])/\Below w.1.size w w':=by
 obtain⟨c,b,a,d⟩:=box2 w (.cells #[I J s.t,I J s.sr,I J s.wa] 195) (.cells #[I J s.t,I J s.sr,I J s.wa] 146)
 go_enter func335,ntmps335
 go_wp2_with fail
 refine bodyPost_ret (v:=.agg #[I J s.t,I J s.sr,I J s.wa]) (results_cell_row results335 _ _ (w.1.size+1) _ _ _ _ rfl b underlying146 rfl (by kernel_rfl)) rfl ?_
 exact⟨rfl,a⟩
theorem keyOf_Roll(s:Sg)(w:U):Calls prog 102 #[.iface 195 (.agg #[I J s.t,I J s.sr,I J s.wa])] w fun e w'=>e=.returned (.agg #[I J 1,I J s.t,I J s.sr,I J s.wa])/\Below w.1.size w w':=by
 have b0:=zm w (.cells #[I J 0,I J 0,I J 0,I J 0] 162)
 have m:=zL w (.cells #[I J 0,I J 0,I J 0,I J 0] 162)
 have g:Below w.1.size w (w.alloc (.cells #[I J 0,I J 0,I J 0,I J 0] 162)):=(Below.refl _ _).alloc (E _) _
 have q:=fun W=>zd (kind_Roll s W)
 have r:=fun W=>zd (segm_Roll s W)
 have n:=zd b0
 have o:=zd m
 have h:=zd g
 clear b0 m g
 have y:=kI s
 have z:=kW s
 go_enter func102,ntmps102
 go_wp2_with(first
  |(go_at_call 334;refine(ud (q _)).mono ?_;rintro e A ⟨rfl,a⟩;have c:=zd a;clear a)
  |(go_at_call 335;refine(ud (r _)).mono ?_;rintro e B ⟨rfl,b⟩;have d:w.1.size<(w.alloc (.cells #[I J 0,I J 0,I J 0,I J 0] 162)).1.size:=(by rw[ud o];omega);have f:=(b.block w.1.size (K d (ud c).size)).trans (((ud c).block w.1.size d).trans (ud n));obtain⟨C,D,F,G,-⟩:=zc f;have H:=fun j=>zE f j;have x:=za f;have p:=zd f;have k:=zd b;clear b f d))
 have u:=xy (i:=3) (xy (i:=2) (xy (i:=1) (xy (i:=0) (ud p) (I J 1)) (I J s.t)) (I J s.sr)) (I J s.wa)
 refine bodyPost_ret (v:=.agg #[I J 1,I J s.t,I J s.sr,I J s.wa]) (results_cell_row results102 _ _ w.1.size _ _ _ _ rfl u underlying162 rfl (by kernel_rfl)) rfl ?_
 have l:=ud h
 have a:=ud c
 have b:=ud k
 exact⟨rfl,(l.trans (a.mono l.size)).trans ((b.mono (Nat.le_trans l.size a.size)).trans (below4 (E _) _ _ _ _))⟩
theorem kind_Reclaim(s:Sg)(w:U):Calls prog 337 #[.agg #[I J s.t,I J s.sr,I J s.wa]] w fun e w'=>e=.returned (I J 2)/\Below w.1.size w w':=by
 go_enter func337,ntmps337
 go_wp2_with fail
 go_ret
 exact⟨rfl,(Below.refl _ _).alloc (E _) _⟩
theorem segm_Reclaim(s:Sg)(w:U):Calls prog 338 #[.agg #[I J s.t,I J s.sr,I J s.wa]] w fun e w'=>e=.returned (.agg #[I J s.t,I J s.sr,I J s.wa])/\Below w.1.size w w':=by
 obtain⟨c,b,a,d⟩:=box2 w (.cells #[I J s.t,I J s.sr,I J s.wa] 197) (.cells #[I J s.t,I J s.sr,I J s.wa] 146)
 go_enter func338,ntmps338
 go_wp2_with fail
 refine bodyPost_ret (v:=.agg #[I J s.t,I J s.sr,I J s.wa]) (results_cell_row results338 _ _ (w.1.size+1) _ _ _ _ rfl b underlying146 rfl (by kernel_rfl)) rfl ?_
 exact⟨rfl,a⟩
theorem keyOf_Reclaim(s:Sg)(w:U):Calls prog 102 #[.iface 197 (.agg #[I J s.t,I J s.sr,I J s.wa])] w fun e w'=>e=.returned (.agg #[I J 2,I J s.t,I J s.sr,I J s.wa])/\Below w.1.size w w':=by
 have b0:=zm w (.cells #[I J 0,I J 0,I J 0,I J 0] 162)
 have m:=zL w (.cells #[I J 0,I J 0,I J 0,I J 0] 162)
 have g:Below w.1.size w (w.alloc (.cells #[I J 0,I J 0,I J 0,I J 0] 162)):=(Below.refl _ _).alloc (E _) _
 have q:=fun W=>zd (kind_Reclaim s W)
 have r:=fun W=>zd (segm_Reclaim s W)
 have n:=zd b0
 have o:=zd m
 have h:=zd g
 clear b0 m g
 have y:=yh s
 have z:=yF s
 go_enter func102,ntmps102
 go_wp2_with(first
  |(go_at_call 337;refine(ud (q _)).mono ?_;rintro e A ⟨rfl,a⟩;have c:=zd a;clear a)
  |(go_at_call 338;refine(ud (r _)).mono ?_;rintro e B ⟨rfl,b⟩;have d:w.1.size<(w.alloc (.cells #[I J 0,I J 0,I J 0,I J 0] 162)).1.size:=(by rw[ud o];omega);have f:=(b.block w.1.size (K d (ud c).size)).trans (((ud c).block w.1.size d).trans (ud n));obtain⟨C,D,F,G,-⟩:=zc f;have H:=fun j=>zE f j;have x:=za f;have p:=zd f;have k:=zd b;clear b f d))
 have u:=xy (i:=3) (xy (i:=2) (xy (i:=1) (xy (i:=0) (ud p) (I J 2)) (I J s.t)) (I J s.sr)) (I J s.wa)
 refine bodyPost_ret (v:=.agg #[I J 2,I J s.t,I J s.sr,I J s.wa]) (results_cell_row results102 _ _ w.1.size _ _ _ _ rfl u underlying162 rfl (by kernel_rfl)) rfl ?_
 have l:=ud h
 have a:=ud c
 have b:=ud k
 exact⟨rfl,(l.trans (a.mono l.size)).trans ((b.mono (Nat.le_trans l.size a.size)).trans (below4 (E _) _ _ _ _))⟩
theorem keyOf_any(x:Tsk)(w:U):Calls prog 102 #[.iface x.jt (.agg #[I J x.s.t,I J x.s.sr,I J x.s.wa])] w fun e w'=>e=.returned (.agg #[I J x.kd,I J x.s.t,I J x.s.sr,I J x.s.wa])/\Below w.1.size w w':=by
 obtain⟨rl,s,a,b,c⟩:=x
 cases rl with
 |true=>exact keyOf_Roll s w
 |false=>exact keyOf_Reclaim s w
theorem below_more{a w:U}(h:Below a.1.size a w)(o:Obj):Below a.1.size a (w.alloc o):=h.alloc h.size o
theorem below4s{B:Nat}{w:U}{g:Nat}(h:B<=g)(a b c d:Value):Below B w (yO w g a b c d):=((((Below.refl _ _).setCell (p:=⟨g,0,O⟩) h _).setCell (p:=⟨g,1,O⟩) h _).setCell (p:=⟨g,2,O⟩) h _).setCell (p:=⟨g,3,O⟩) h _
theorem bel_aa{a:Nat}{w V:U}(h:Below a w V)(c:a<=V.1.size)(o b:Obj):Below a w ((V.alloc o).alloc b):=(h.alloc c o).alloc (by rw[zL];omega) b
theorem bel_sa{e g:Nat}{w V:U}(h:Below e w V)(f:e<=V.1.size)(i:e<=g)(a b c d:Value)(o:Obj):Below e w ((yO V g a b c d).alloc o):=(h.trans (below4s i a b c d)).alloc (by rw[zae];exact f) o
theorem bel_as{e g:Nat}{w V:U}(h:Below e w V)(f:e<=V.1.size)(i:e<=g)(a b c d:Value)(o:Obj):Below e w (yO (V.alloc o) g a b c d):=(h.alloc f o).trans (below4s i a b c d)
theorem bel_ss{e g k:Nat}{w V:U}(h:Below e w V)(l:e<=g)(m:e<=k)(a b c d f b' i j:Value):Below e w (yO (yO V g a b c d) k f b' i j):=(h.trans (below4s l a b c d)).trans (below4s m f b' i j)
theorem byKey_any(x y:Tsk)(w:U):
  Calls prog 106 #[.agg #[.iface x.jt (.agg #[I J x.s.t,I J x.s.sr,I J x.s.wa]),I J x.se,I J x.ti,I J x.rest],.agg #[.iface y.jt (.agg #[I J y.s.t,I J y.s.sr,I J y.s.wa]),I J y.se,I J y.ti,I J y.rest]] w fun e w'=>e=.returned (I J (vH x y))/\Below w.1.size w w':=by
 have ab:=fun W=>zd (keyOf_any x W)
 have D:=fun W=>zd (keyOf_any y W)
 obtain⟨b1,b2,aB,bz⟩:=box2 w (.cells #[.iface x.jt (.agg #[I J x.s.t,I J x.s.sr,I J x.s.wa]),I J x.se,I J x.ti,I J x.rest] 177) (.cells #[.iface y.jt (.agg #[I J y.s.t,I J y.s.sr,I J y.s.wa]),I J y.se,I J y.ti,I J y.rest] 177)
 obtain⟨x0,-⟩:=zc b1
 obtain⟨y0,-⟩:=zc b2
 have ay:=zd aB
 clear b1 b2 aB
 go_enter func106,ntmps106
 go_wp2_with fail
 generalize((w.alloc (.cells #[.iface x.jt (.agg #[I J x.s.t,I J x.s.sr,I J x.s.wa]),I J x.se,I J x.ti,I J x.rest] 177)).alloc (.cells #[.iface y.jt (.agg #[I J y.s.t,I J y.s.sr,I J y.s.wa]),I J y.se,I J y.ti,I J y.rest] 177))=X at*
 have A:w.1.size<X.1.size:=by omega
 have B:w.1.size+1<X.1.size:=by omega
 have bb:¬w.1.size=w.1.size+1:=by omega
 generalize w.1.size+1=q at*
 generalize aC:w.1.size=m at*
 clear bz
 rename_i Q1 K1 hK1
 have ac:∀(M bk:Nat) (Y:U),Y.1[M]?=Q (.cells #[I J x.kd,I J x.s.t,I J x.s.sr,I J x.s.wa] 162 (0,0))->Y.1[bk]?=Q (.cells #[I J y.kd,I J y.s.t,I J y.s.sr,I J y.s.wa] 162 (0,0))->Below m w Y->K1 {tmps:=#[.agg #[.iface x.jt (.agg #[I J x.s.t,I J x.s.sr,I J x.s.wa]),I J x.se,I J x.ti,I J x.rest],.agg #[.iface y.jt (.agg #[I J y.s.t,I J y.s.sr,I J y.s.wa]),I J y.se,I J y.ti,I J y.rest],.pointer (Q ⟨m,0,O⟩),.pointer (Q ⟨q,0,O⟩),I J 0,.pointer (Q ⟨M,0,O⟩),.pointer (Q ⟨bk,0,O⟩),.pointer (Q ⟨m,0,O⟩),.iface x.jt (.agg #[I J x.s.t,I J x.s.sr,I J x.s.wa]),.agg #[I J x.kd,I J x.s.t,I J x.s.sr,I J x.s.wa],.pointer (Q ⟨q,0,O⟩),.iface y.jt (.agg #[I J y.s.t,I J y.s.sr,I J y.s.wa]),.agg #[I J y.kd,I J y.s.t,I J y.s.sr,I J y.s.wa],undef,undef,undef,undef,undef,undef,undef,undef,undef,undef,undef,undef],defers:=[]} Y:=by
  intro M bk Y hj hk hY
  apply hK1
  clear ab D x0 y0 A B ay hK1
  have HY:=zd hY
  clear hY
  have aY:=fun(a b:Int) W=>zd (yI a b W)
  have an:∀V W:U,W.1[V.1.size]?=Q (.cells #[I J (kz x.kd y.kd),I J (JR x.s y.s)] 3)->Hid (Calls prog 163 #[.slice (Q ⟨V.1.size,0,O⟩) 2 2] W fun e w'=>e=.returned (I J (vH x y))/\w'=W):=fun V W hW=>by
   have h:=zdf [kz x.kd y.kd,JR x.s y.s] (by simp) W V.1.size (fun k v hk=>by
    rw[xD hW]
    match k,hk with
    |0,hk=>simp at hk;subst hk;rfl
    |1,hk=>simp at hk;subst hk;rfl)
   rw[zap]at h
   exact h
  have aZ:=zd (ZC x.s y.s Y)
  have b0:=zd (ZC x.s y.s Y.drew)
  obtain⟨j0,j1,j2,j3,-⟩:=zc hj
  obtain⟨k0,k1,k2,k3,-⟩:=zc hk
  have a3:=za hj
  have a4:=za hk
  clear hj hk
  generalize aA:vH x y=BV at*
  have ax:=zd aA
  clear aA
  generalize bq:kz x.kd y.kd=C0 at*
  generalize br:JR x.s y.s=C1 at*
  go_wp2_with fail
  go_region_held3 (fun w'=>w'.cell? ⟨M,0,O⟩=Q (I J x.kd)/\w'.cell? ⟨M,1,O⟩=Q (I J x.s.t)/\w'.cell? ⟨M,2,O⟩=Q (I J x.s.sr)/\w'.cell? ⟨M,3,O⟩=Q (I J x.s.wa)/\w'.cell? ⟨bk,0,O⟩=Q (I J y.kd)/\w'.cell? ⟨bk,1,O⟩=Q (I J y.s.t)/\w'.cell? ⟨bk,2,O⟩=Q (I J y.s.sr)/\w'.cell? ⟨bk,3,O⟩=Q (I J y.s.wa)) (go_keep) (first
   |(go_at_call 162;(with_reducible refine(ud (aY _ _ _)).mono ?_);rintro e V0 ⟨rfl,rfl⟩)
   |(go_at_call 166;(first|(with_reducible refine(ud aZ).mono ?_)|(with_reducible refine(ud b0).mono ?_));rintro e V ⟨rfl,ao⟩;have T:Dr.Below Y.1.size Y V:=(by first|exact ao|exact((Dr.Below.refl Y.1.size Y).drew).trans ao);have bK:V.cell? ⟨M,0,O⟩=Q (I J x.kd):=(T.cell (p:=⟨M,0,O⟩) a3).trans j0;have bL:V.cell? ⟨M,1,O⟩=Q (I J x.s.t):=(T.cell (p:=⟨M,1,O⟩) a3).trans j1;have bM:V.cell? ⟨M,2,O⟩=Q (I J x.s.sr):=(T.cell (p:=⟨M,2,O⟩) a3).trans j2;have bN:V.cell? ⟨M,3,O⟩=Q (I J x.s.wa):=(T.cell (p:=⟨M,3,O⟩) a3).trans j3;have bO:V.cell? ⟨bk,0,O⟩=Q (I J y.kd):=(T.cell (p:=⟨bk,0,O⟩) a4).trans k0;have bP:V.cell? ⟨bk,1,O⟩=Q (I J y.s.t):=(T.cell (p:=⟨bk,1,O⟩) a4).trans k1;have bQ:V.cell? ⟨bk,2,O⟩=Q (I J y.s.sr):=(T.cell (p:=⟨bk,2,O⟩) a4).trans k2;have bR:V.cell? ⟨bk,3,O⟩=Q (I J y.s.wa):=(T.cell (p:=⟨bk,3,O⟩) a4).trans k3;have bu:=K a3 T.size;have bv:=K a4 T.size;have b3:=an V (V.alloc (.cells #[I J C0,I J C1] 3)) (zm _ _);have b4:=an V (V.alloc (.cells #[I J C0,I J C1] 3)).drew (zm _ _);have b5:=an V (V.drew.alloc (.cells #[I J C0,I J C1] 3)) (zm V.drew _);have HV:=zd T;clear T ao)
   |(go_at_call 163;(first|(with_reducible refine(ud b3).mono ?_)|(with_reducible refine(ud b4).mono ?_)|(with_reducible refine(ud b5).mono ?_));rintro e V9 ⟨rfl,rfl⟩))
  all_goals go_wp2_with fail
  all_goals go_ret
  all_goals have hY:=(ud HY).trans ((ud HV).mono (by have:=(ud HY).size;omega))
  all_goals first|exact⟨by rw[ud ax];rfl,by rw[aC];exact hY.alloc (by have:=hY.size;omega) _⟩|exact⟨by rw[ud ax];rfl,by rw[aC];exact(hY.alloc (by have:=hY.size;omega) _).drew⟩
 have b6:=zd ac
 clear hK1 ac
 go_region_held3 (fun w'=>w'.cell? ⟨m,0,O⟩=Q (.iface x.jt (.agg #[I J x.s.t,I J x.s.sr,I J x.s.wa]))/\w'.cell? ⟨q,0,O⟩=Q (.iface y.jt (.agg #[I J y.s.t,I J y.s.sr,I J y.s.wa]))) (go_keep) (first
  |(go_at_call 102;(with_reducible refine(ud (ab _)).mono ?_);rintro e i ⟨rfl,n⟩;have u:i.1[X.1.size]?=Q (.cells #[I J 0,I J 0,I J 0,I J 0] 162 (0,0)):=(n.block _ (by first|(simp;done)|(simp;omega))).trans (VT _ _ _);have a5:i.1[X.1.size+1]?=Q (.cells #[I J 0,I J 0,I J 0,I J 0] 162 (0,0)):=(n.block _ (by simp)).trans (VU _ _ _);obtain⟨bc,bd,be,bf,-⟩:=zc u;have bg:=fun j=>zE u j;have bh:=za u;have af:¬m=X.1.size:=(by omega);have ad:¬X.1.size=m:=(by omega);have ag:¬q=X.1.size:=(by omega);have ae:¬X.1.size=q:=(by omega);obtain⟨bw,bx,bA,bB,-⟩:=zc a5;have bC:=fun j=>zE a5 j;have bD:=za a5;have aI:¬m=X.1.size+1:=(by omega);have aF:¬X.1.size+1=m:=(by omega);have aJ:¬q=X.1.size+1:=(by omega);have aG:¬X.1.size+1=q:=(by omega);have aK:¬X.1.size=X.1.size+1:=(by omega);have aH:¬X.1.size+1=X.1.size:=(by omega);have G:=zd u;have az:=zd a5;clear u;clear a5;have l:Below X.1.size X i:=Below.trans (b:=_) (by(repeat(first|exact Below.refl _ _|assumption|apply Below.drew|apply below_more))) (n.mono (by first|exact E _|(simp;done)|(simp;omega)));have x1:=(l.cell (p:=⟨m,0,O⟩) A).trans x0;have y1:=(l.cell (p:=⟨q,0,O⟩) B).trans y0;have aD:=K A l.size;have aE:=K B l.size;have r:=zd l;clear n l)
  |(go_at_call 102;(with_reducible refine(ud (ab _)).mono ?_);rintro e i ⟨rfl,n⟩;have u:i.1[X.1.size]?=Q (.cells #[I J 0,I J 0,I J 0,I J 0] 162 (0,0)):=(n.block _ (by simp)).trans (zcA _ _);obtain⟨bc,bd,be,bf,-⟩:=zc u;have bg:=fun j=>zE u j;have bh:=za u;have af:¬m=X.1.size:=(by omega);have ad:¬X.1.size=m:=(by omega);have ag:¬q=X.1.size:=(by omega);have ae:¬X.1.size=q:=(by omega);have G:=zd u;clear u;have l:Below X.1.size X i:=Below.trans (b:=_) (by(repeat(first|exact Below.refl _ _|assumption|apply Below.drew|apply below_more))) (n.mono (by first|exact E _|(simp;done)|(simp;omega)));have x1:=(l.cell (p:=⟨m,0,O⟩) A).trans x0;have y1:=(l.cell (p:=⟨q,0,O⟩) B).trans y0;have aD:=K A l.size;have aE:=K B l.size;have r:=zd l;clear n l)
  |(go_at_call 102;(with_reducible refine(ud (ab _)).mono ?_);rintro e i ⟨rfl,n⟩;have l:Below X.1.size X i:=Below.trans (b:=_) (by(repeat(first|exact Below.refl _ _|assumption|apply Below.drew|apply below_more))) (n.mono (by first|exact E _|(simp;done)|(simp;omega)));have x1:=(l.cell (p:=⟨m,0,O⟩) A).trans x0;have y1:=(l.cell (p:=⟨q,0,O⟩) B).trans y0;have aD:=K A l.size;have aE:=K B l.size;have r:=zd l;clear n l)
  |(go_at_call 102;(with_reducible refine(ud (D _)).mono ?_);rintro e z ⟨rfl,f⟩;have d:Below i.1.size i z:=Below.trans (b:=_) (by(repeat(first|exact Below.refl _ _|assumption|apply Below.drew|apply below_more))) (f.mono (by first|exact E _|(simp;done)|(simp;omega)));have g:=(d.block _ (za (ud G))).trans (ud G);obtain⟨ah,ai,aj,ak,-⟩:=zc g;have al:=fun j=>zE g j;have am:=za g;have R:¬m=X.1.size:=(by omega);have N:¬X.1.size=m:=(by omega);have S:¬q=X.1.size:=(by omega);have P:¬X.1.size=q:=(by omega);have H:=zd g;clear g;have C:=(d.block _ (za (ud az))).trans (ud az);obtain⟨bi,bl,bm,bn,-⟩:=zc C;have bo:=fun j=>zE C j;have bp:=za C;have au:¬m=X.1.size+1:=(by omega);have ap:¬X.1.size+1=m:=(by omega);have av:¬q=X.1.size+1:=(by omega);have aq:¬X.1.size+1=q:=(by omega);have aw:¬X.1.size=X.1.size+1:=(by omega);have ar:¬X.1.size+1=X.1.size:=(by omega);have Z:=zd C;clear C;have c:Below X.1.size X z:=(ud r).trans (d.mono (ud r).size);have x2:=(c.cell (p:=⟨m,0,O⟩) A).trans x0;have y2:=(c.cell (p:=⟨q,0,O⟩) B).trans y0;have a1:=K A c.size;have a2:=K B c.size;have F:=zd c;clear f c d)
  |(go_at_call 102;(with_reducible refine(ud (D _)).mono ?_);rintro e z ⟨rfl,f⟩;have o:z.1[i.1.size]?=Q (.cells #[I J 0,I J 0,I J 0,I J 0] 162 (0,0)):=(f.block _ (by simp)).trans (zcA _ _);obtain⟨aL,aM,aN,aO,-⟩:=zc o;have aP:=fun j=>zE o j;have val:=za o;have a8:¬m=i.1.size:=(by omega);have a6:¬i.1.size=m:=(by omega);have a9:¬q=i.1.size:=(by omega);have a7:¬i.1.size=q:=(by omega);have aR:¬X.1.size=i.1.size:=(by omega);have aQ:¬i.1.size=X.1.size:=(by omega);have L:=zd o;clear o;have d:Below i.1.size i z:=Below.trans (b:=_) (by(repeat(first|exact Below.refl _ _|assumption|apply Below.drew|apply below_more))) (f.mono (by first|exact E _|(simp;done)|(simp;omega)));have g:=(d.block _ (za (ud G))).trans (ud G);obtain⟨ah,ai,aj,ak,-⟩:=zc g;have al:=fun j=>zE g j;have am:=za g;have R:¬m=X.1.size:=(by omega);have N:¬X.1.size=m:=(by omega);have S:¬q=X.1.size:=(by omega);have P:¬X.1.size=q:=(by omega);have H:=zd g;clear g;have c:Below X.1.size X z:=(ud r).trans (d.mono (ud r).size);have x2:=(c.cell (p:=⟨m,0,O⟩) A).trans x0;have y2:=(c.cell (p:=⟨q,0,O⟩) B).trans y0;have a1:=K A c.size;have a2:=K B c.size;have F:=zd c;clear f c d)
  |(go_at_call 102;(with_reducible refine(ud (D _)).mono ?_);rintro e z ⟨rfl,f⟩;have d:Below i.1.size i z:=Below.trans (b:=_) (by(repeat(first|exact Below.refl _ _|assumption|apply Below.drew|apply below_more))) (f.mono (by first|exact E _|(simp;done)|(simp;omega)));have g:=(d.block _ (za (ud G))).trans (ud G);obtain⟨ah,ai,aj,ak,-⟩:=zc g;have al:=fun j=>zE g j;have am:=za g;have R:¬m=X.1.size:=(by omega);have N:¬X.1.size=m:=(by omega);have S:¬q=X.1.size:=(by omega);have P:¬X.1.size=q:=(by omega);have H:=zd g;clear g;have c:Below X.1.size X z:=(ud r).trans (d.mono (ud r).size);have x2:=(c.cell (p:=⟨m,0,O⟩) A).trans x0;have y2:=(c.cell (p:=⟨q,0,O⟩) B).trans y0;have a1:=K A c.size;have a2:=K B c.size;have F:=zd c;clear f c d)
  |(go_at_call 102;(with_reducible refine(ud (D _)).mono ?_);rintro e z ⟨rfl,f⟩;have o:z.1[i.1.size]?=Q (.cells #[I J 0,I J 0,I J 0,I J 0] 162 (0,0)):=(f.block _ (by first|(simp;done)|(simp;omega))).trans (VT _ _ _);have aa:z.1[i.1.size+1]?=Q (.cells #[I J 0,I J 0,I J 0,I J 0] 162 (0,0)):=(f.block _ (by simp)).trans (VU _ _ _);obtain⟨aL,aM,aN,aO,-⟩:=zc o;have aP:=fun j=>zE o j;have val:=za o;have a8:¬m=i.1.size:=(by omega);have a6:¬i.1.size=m:=(by omega);have a9:¬q=i.1.size:=(by omega);have a7:¬i.1.size=q:=(by omega);obtain⟨bE,bF,bG,bH,-⟩:=zc aa;have bI:=fun j=>zE aa j;have bJ:=za aa;have aV:¬m=i.1.size+1:=(by omega);have aS:¬i.1.size+1=m:=(by omega);have aW:¬q=i.1.size+1:=(by omega);have aT:¬i.1.size+1=q:=(by omega);have aX:¬i.1.size=i.1.size+1:=(by omega);have aU:¬i.1.size+1=i.1.size:=(by omega);have L:=zd o;have a0:=zd aa;clear o;clear aa;have d:Below i.1.size i z:=Below.trans (b:=_) (by(repeat(first|exact Below.refl _ _|assumption|apply Below.drew|apply below_more))) (f.mono (by first|exact E _|(simp;done)|(simp;omega)));have c:Below X.1.size X z:=(ud r).trans (d.mono (ud r).size);have x2:=(c.cell (p:=⟨m,0,O⟩) A).trans x0;have y2:=(c.cell (p:=⟨q,0,O⟩) B).trans y0;have a1:=K A c.size;have a2:=K B c.size;have F:=zd c;clear f c d)
  |(go_at_call 102;(with_reducible refine(ud (D _)).mono ?_);rintro e z ⟨rfl,f⟩;have o:z.1[i.1.size]?=Q (.cells #[I J 0,I J 0,I J 0,I J 0] 162 (0,0)):=(f.block _ (by simp)).trans (zcA _ _);obtain⟨aL,aM,aN,aO,-⟩:=zc o;have aP:=fun j=>zE o j;have val:=za o;have a8:¬m=i.1.size:=(by omega);have a6:¬i.1.size=m:=(by omega);have a9:¬q=i.1.size:=(by omega);have a7:¬i.1.size=q:=(by omega);have L:=zd o;clear o;have d:Below i.1.size i z:=Below.trans (b:=_) (by(repeat(first|exact Below.refl _ _|assumption|apply Below.drew|apply below_more))) (f.mono (by first|exact E _|(simp;done)|(simp;omega)));have c:Below X.1.size X z:=(ud r).trans (d.mono (ud r).size);have x2:=(c.cell (p:=⟨m,0,O⟩) A).trans x0;have y2:=(c.cell (p:=⟨q,0,O⟩) B).trans y0;have a1:=K A c.size;have a2:=K B c.size;have F:=zd c;clear f c d)
  |(go_at_call 102;(with_reducible refine(ud (D _)).mono ?_);rintro e z ⟨rfl,f⟩;have d:Below i.1.size i z:=Below.trans (b:=_) (by(repeat(first|exact Below.refl _ _|assumption|apply Below.drew|apply below_more))) (f.mono (by first|exact E _|(simp;done)|(simp;omega)));have c:Below X.1.size X z:=(ud r).trans (d.mono (ud r).size);have x2:=(c.cell (p:=⟨m,0,O⟩) A).trans x0;have y2:=(c.cell (p:=⟨q,0,O⟩) B).trans y0;have a1:=K A c.size;have a2:=K B c.size;have F:=zd c;clear f c d))
 all_goals show K1 _ _
 all_goals(have hB:=(ud ay).trans ((ud F).mono (show m<=X.1.size by omega));have bt:=(ud F).size;have bs:=(ud r).size)
 all_goals try clear af
 all_goals try clear ag
 all_goals try clear uan2
 all_goals try clear uan3
 all_goals try clear uan4
 all_goals try clear ad
 all_goals try clear ae
 all_goals try clear uam2
 all_goals try clear uam3
 all_goals try clear uam4
 all_goals try clear aI
 all_goals try clear aJ
 all_goals try clear aK
 all_goals try clear ubn3
 all_goals try clear ubn4
 all_goals try clear aF
 all_goals try clear aG
 all_goals try clear aH
 all_goals try clear ubm3
 all_goals try clear ubm4
 all_goals try clear a8
 all_goals try clear a9
 all_goals try clear aR
 all_goals try clear van3
 all_goals try clear van4
 all_goals try clear a6
 all_goals try clear a7
 all_goals try clear aQ
 all_goals try clear vam3
 all_goals try clear vam4
 all_goals try clear aV
 all_goals try clear aW
 all_goals try clear aX
 all_goals try clear vbn3
 all_goals try clear vbn4
 all_goals try clear aS
 all_goals try clear aT
 all_goals try clear aU
 all_goals try clear vbm3
 all_goals try clear vbm4
 all_goals try clear R
 all_goals try clear S
 all_goals try clear uavn2
 all_goals try clear uavn3
 all_goals try clear uavn4
 all_goals try clear N
 all_goals try clear P
 all_goals try clear uavm2
 all_goals try clear uavm3
 all_goals try clear uavm4
 all_goals try clear au
 all_goals try clear av
 all_goals try clear aw
 all_goals try clear ubvn3
 all_goals try clear ubvn4
 all_goals try clear ap
 all_goals try clear aq
 all_goals try clear ar
 all_goals try clear ubvm3
 all_goals try clear ubvm4
 all_goals try clear bb
 all_goals(with_reducible refine ud b6 _ _ _ ?_ ?_ ?_)
 all_goals(try have b9:=za (ud L))
 all_goals(try have ba:=za (ud a0))
 all_goals(try have b7:=za (ud H))
 all_goals(try have b8:=za (ud Z))
 all_goals(first
  |(with_reducible exact VT _ _ _)
  |(with_reducible exact VU _ _ _)
  |(with_reducible exact zhz _ _ _ _ _ _ _)
  |(with_reducible exact Yv (ud L) _ _ _ _ _)
  |(with_reducible exact Yw (ud L) _ _ _ _ _)
  |(with_reducible exact Yv (ud a0) _ _ _ _ _)
  |(with_reducible exact Yw (ud a0) _ _ _ _ _)
  |(with_reducible exact Yv (ud H) _ _ _ _ _)
  |(with_reducible exact Yw (ud H) _ _ _ _ _)
  |(with_reducible exact Yv (ud Z) _ _ _ _ _)
  |(with_reducible exact Yw (ud Z) _ _ _ _ _)
  |(with_reducible exact zhA (by omega) _ _ _ _ _)
  |(with_reducible exact YP (by omega) (ud L) _ _ _ _ _ _ _ _)
  |(with_reducible exact YQ (by omega) (ud L) _ _ _ _ _ _ _ _)
  |(with_reducible exact YP (by omega) (ud a0) _ _ _ _ _ _ _ _)
  |(with_reducible exact YQ (by omega) (ud a0) _ _ _ _ _ _ _ _)
  |(with_reducible exact YP (by omega) (ud H) _ _ _ _ _ _ _ _)
  |(with_reducible exact YQ (by omega) (ud H) _ _ _ _ _ _ _ _)
  |(with_reducible exact YP (by omega) (ud Z) _ _ _ _ _ _ _ _)
  |(with_reducible exact YQ (by omega) (ud Z) _ _ _ _ _ _ _ _)
  |((with_reducible refine bel_aa hB ?_ _ _)<;>omega)
  |((with_reducible refine bel_sa hB ?_ ?_ _ _ _ _ _)<;>omega)
  |((with_reducible refine bel_as hB ?_ ?_ _ _ _ _ _)<;>omega)
  |((with_reducible refine bel_ss hB ?_ ?_ _ _ _ _ _ _ _ _)<;>omega))
end Go.Proofs.YtndhpgciopcncaaGreatDoor.Dr
namespace Go.Proofs.YtndhpgciopcncaaGreatDoor
open Go.RowKit Go.Maps Go.Shelf
inductive qP (c:Cf) (ep:Int):MS->List Nm->MS->List Nm->Prop
 |same (m:MS) (ns:List Nm):qP c ep m ns m ns
 |added (m:MS) (ns:List Nm) (x:Nm) (hs:0<=x.sr/\x.sr<4) (hx:0<=x.tm/\x.tm<=m.now) (hl:m.now-c.la<=x.tm) (hv: -2147483648<=x.val/\x.val<=2147483647) (hu:zp m.L+(1+2*yi c m.L x c.n)<=c.qu):qP c ep m ns {m with L:=kL c m.L x} (ns++[x])
 |ticked (m:MS) (ns:List Nm) (n:Int) (TL1 TL':List (Jk×Tsk)) (QL1:List (Tok×Lse)) (hn:1<=n) (hnow:m.now+n<=100000) (he:YV (m.now+n) m.TL m.QL TL1 QL1) (hq:∀p∈QL1,m.now+n<p.2.til) (hp:qv c {m with now:=m.now+n,TL:=TL1,QL:=QL1} TL'):qP c ep m ns {m with now:=m.now+n,TL:=TL',QL:=QL1} ns
 |taken (m:MS) (ns:List Nm) (p:Jk×Tsk) (slot:Int) (hp:p∈m.TL) (hf:yJ m.QL m.now p.2=true):qP c ep m ns {m with num:=m.num+1,QL:=qq m.QL ⟨ep,m.num+1⟩ ⟨p.2.kd,p.2.s,slot,m.now+c.le⟩} ns
 |failed (m:MS) (ns:List Nm) (t:Tok) (g:Lse) (x:Tsk) (hg:zQ m.QL t=Q g) (hx:zQ m.TL g.job=Q x):qP c ep m ns {m with TL:=qq m.TL g.job (x.failed m.now),QL:=xe m.QL t} ns
 |rolled (m:MS) (ns:List Nm) (t:Tok) (g:Lse) (s:Sg) (se ti rest:Int) (k:Nat) (TL':List (Jk×Tsk)) (hg:zQ m.QL t=Q g) (hx:zQ m.TL g.job=Q ⟨true,s,se,ti,rest⟩) (hk:s.t=k) (hp:qv c {m with L:=qT m.L s ⟨3,xi (zW c m.L s.sr s.wa k)⟩,Gl:=m.Gl,TL:=xe m.TL g.job,QL:=xe m.QL t} TL'):qP c ep m ns {m with L:=qT m.L s ⟨3,xi (zW c m.L s.sr s.wa k)⟩,Gl:=m.Gl,TL:=TL',QL:=xe m.QL t} ns
 |reclaimed (m:MS) (ns:List Nm) (t:Tok) (g:Lse) (s:Sg) (se ti rest:Int) (TL':List (Jk×Tsk)) (hg:zQ m.QL t=Q g) (hx:zQ m.TL g.job=Q ⟨false,s,se,ti,rest⟩) (hp:qv c {m with L:=xe m.L s,Gl:=qq m.Gl s (),TL:=xe m.TL g.job,QL:=xe m.QL t} TL'):qP c ep m ns {m with L:=xe m.L s,Gl:=qq m.Gl s (),TL:=TL',QL:=xe m.QL t} ns
theorem zaF{QL:List (Tok×Lse)}{now:Int}{x:Tsk}(h:yJ QL now x=true):x.rest<=now/\kh QL x.key=false:=by
 unfold yJ at h
 simp only[Bool.and_eq_true,Bool.not_eq_true',decide_eq_true_eq]at h
 exact h
theorem qP.ok{c:Cf}{ep:Int}{m m':MS}{ns l:List Nm}(e:c.ok)(o:c.fits)(h:qP c ep m ns m' l)(b:SOk c ep m ns.length):SOk c ep m' l.length:=by
 cases h with
 |same=>exact b
 |added x q r y z A=>have:=(b.ingest e o q r y z A).1;simpa using this
 |ticked n w d v hn i B C a=>exact(b.tick e o hn i B C a).1
 |taken p slot a u=>obtain⟨q,r⟩:=zaF u;exact b.take e a q r slot
 |failed t g x f j=>exact b.fail f j
 |rolled t g s se ti rest k d f j D a=>exact(b.roll e o f j _ a).1
 |reclaimed t g s se ti rest d f j a=>exact(b.reclaim e o f j a).1
theorem qP.nu{c:Cf}{ep:Int}{m m':MS}{ns a:List Nm}(h:qP c ep m ns m' a):a.length<=ns.length+1:=by
 cases h<;>simp
end Go.Proofs.YtndhpgciopcncaaGreatDoor
