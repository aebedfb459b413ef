import Derived.Test.YtndhpgciopcncaaGreatDoorXBrd0
import Derived.Test.YtndhpgciopcncaaGreatDoorXLay2
open Nat renaming lt_of_lt_of_le → J
open Nat renaming le_refl → E
open Option renaming some → Q
open Go renaming World → Z
open Go renaming Value → N
open Nat renaming le_trans → S
set_option linter.unusedVariables false
set_option maxRecDepth 20000
set_option maxHeartbeats 8000000
open Go.Proofs.Tryz
open Go renaming undef → u_
namespace Go.Proofs.YtndhpgciopcncaaGreatDoor
open Go.ChangeMaps (setBlock)
open Go.RowKit Go.Maps Go.Shelf
variable {b g k n0:Nat} {fr:Nat×Nat} {p q r s:N} {V w:Z}
def kO(QL:List (Tok×Lse))(now:Int)(x:Tsk):Bool:=decide (x.rest<=now)&&!vg QL x.key
theorem zjf{c:Cf}{tv:N}{ep num:Int}{tb qb:Nat}{TL:List (Jk×Tsk)}{QL:List (Tok×Lse)}(h:zN w b c tv ep num tb qb TL QL)(x:Tsk)(now:Int)(o:QL.length<=100000)(i g:Nat)(l1:i<w.1.size)(l2:g<w.1.size)(p:w.cell? (U i 0)=Q (I now))(q:w.cell? (U g 0)=Q (O b)):
  Calls prog 98 #[.agg (tZz x),(O i),(O g)] w (Rz w (.bool (kO QL now x))):=by
 have m:=h.lt;have d:Below w.1.size w (w.alloc (.cells (tZz x) 177)):=(Below.refl _ _).alloc (E _) _;have l:=ze (zfS (h.later d) x o);have a:=ze d;unfold kO;obtain⟨lv,f⟩:∃lv,vg QL x.key=lv:=⟨_,rfl⟩;rw[f]at l ⊢;clear h f;by_cases k:x.rest<=now
 ·rw[show(decide (x.rest<=now)&&!lv)=!lv by simp[k]];go_in;go_wp2_with fail;refine l.mono ?_;rintro e w1 ⟨rfl,j⟩;go_wp2_with fail;go_ret;exact⟨rfl,a.trans (j.mono a.size)⟩
 ·rw[show(decide (x.rest<=now)&&!lv)=false by simp[k]];have n:decide (x.rest<=now)=false:=by simpa using k
  go_in;go_wp2_with fail;go_ret;exact⟨rfl,a⟩
theorem zbP:∀args w,(callFunc 98 args).run prog w=.ok (.enter 98 args) w:=enters_of func98 (by kernel_rfl) rfl
theorem zoy(P:Program)(w:Z)(a:Addr)(m:Mode)(fn:Fn)(first b:Array N):(store a (.func fn first b) m).run P w=stored P w a (.func fn first b) m:=_root_.Go.run_store P w a _ m rfl
attribute [local go_sem] zoy
structure zhn(W:Z)(b:Nat)(now:Int)(tight:Bool)(q:Nat):Prop where
 b0:W.1[q]?=Q (.cells #[(O b)] 91 (0,0))
 b1:W.1[q+1]?=Q (.cells #[I now] 3 (0,0))
 b2:W.1[q+2]?=Q (.cells #[.bool tight] 4 (0,0))
 b3:W.1[q+3]?=Q (.cells #[.func (.func 160) #[] #[(O q),(O (q+1))]] 244 (0,0))
theorem zhn.later{W W':Z}{now:Int}{a:Bool}{q:Nat}(h:zhn W b now a q)(c:Below W.1.size W W'):zhn W' b now a q:=
 ⟨(c.block _ (zd h.b0)).trans h.b0,(c.block _ (zd h.b1)).trans h.b1,(c.block _ (zd h.b2)).trans h.b2,(c.block _ (zd h.b3)).trans h.b3⟩
theorem ziY(b:Nat)(now:Int)(a:Bool)(w:Z):
  Calls prog 101 #[(O b),I now,.bool a] w fun e w'=>e=.returned (.func (.func 161) #[] #[(O (w.1.size+2)),(O (w.1.size+3))])/\zhn w' b now a w.1.size/\Below w.1.size w w'/\w'.1.size=w.1.size+4:=by
 obtain⟨k,l,m,g,f⟩:=zmI w (.cells #[(O b)] 91) (.cells #[I now] 3) (.cells #[.bool a] 4);have h:=zo (((w.alloc (.cells #[(O b)] 91)).alloc (.cells #[I now] 3)).alloc (.cells #[.bool a] 4)) (.cells #[.func (.func 160) #[] #[(O w.1.size),(O (w.1.size+1))]] 244);have d:=g.alloc (show w.1.size<=_ by rw[f];omega) (.cells #[.func (.func 160) #[] #[(O w.1.size),(O (w.1.size+1))]] 244);have c:=zE (((w.alloc (.cells #[(O b)] 91)).alloc (.cells #[I now] 3)).alloc (.cells #[.bool a] 4)) (.cells #[.func (.func 160) #[] #[(O w.1.size),(O (w.1.size+1))]] 244);rw[f]at h c;have z0:=(Below.heap_alloc (((w.alloc (.cells #[(O b)] 91)).alloc (.cells #[I now] 3)).alloc (.cells #[.bool a] 4)) (.cells #[.func (.func 160) #[] #[(O w.1.size),(O (w.1.size+1))]] 244) w.1.size (by rw[f];omega)).trans k;have i:=(Below.heap_alloc (((w.alloc (.cells #[(O b)] 91)).alloc (.cells #[I now] 3)).alloc (.cells #[.bool a] 4)) (.cells #[.func (.func 160) #[] #[(O w.1.size),(O (w.1.size+1))]] 244) (w.1.size+1) (by rw[f];omega)).trans l;have j:=(Below.heap_alloc (((w.alloc (.cells #[(O b)] 91)).alloc (.cells #[I now] 3)).alloc (.cells #[.bool a] 4)) (.cells #[.func (.func 160) #[] #[(O w.1.size),(O (w.1.size+1))]] 244) (w.1.size+2) (by rw[f];omega)).trans m;have n:=ze (And.intro z0 (And.intro i (And.intro j (And.intro h (And.intro d c)))));clear k l m g f h d c z0 i j;go_in;go_wp2_with fail;go_ret;obtain⟨z0,i,j,h,d,c⟩:=ud n;exact⟨rfl,⟨z0,i,j,h⟩,d,c⟩
theorem zbK:∀args w,(callFunc 161 args).run prog w=.ok (.enter 161 args) w:=enters_of func161 (by kernel_rfl) rfl
theorem below_more{a:Z}(h:Below a.1.size a w)(o:Obj):Below a.1.size a (w.alloc o):=h.alloc h.size o
theorem zib(W:Z)(z:Obj):(W.alloc z).1[W.1.size]?=Q z:=zo W z
theorem zdh(W:Z)(z a:Obj):((W.alloc z).alloc a).1[W.1.size]?=Q z:=(Below.heap_alloc _ _ _ (by simp)).trans (zo _ _)
theorem zdi(W:Z)(z a:Obj):((W.alloc z).alloc a).1[W.1.size+1]?=Q a:=by have:=zo (W.alloc z) a;rwa[zE]at this
abbrev vw(w:Z)(g:Nat)(a b c d:N):Z:=(((w.setCell (U g 0) a).setCell (U g 1) b).setCell (U g 2) c).setCell (U g 3) d
theorem zaF{t:TypeId}(h:w.1[g]?=Q (.cells #[p,q,r,s] t fr))(a b c d:N):(vw w g a b c d).1[g]?=Q (.cells #[a,b,c,d] t fr):=xq (i:=3) (xq (i:=2) (xq (i:=1) (xq (i:=0) h a) b) c) d
theorem zaG(h:k≠g)(a b c d:N):(vw w g a b c d).1[k]?=w.1[k]?:=by
 unfold vw;rw[Below.heap_setCell _ (U g 3) _ _ h,Below.heap_setCell _ (U g 2) _ _ h,Below.heap_setCell _ (U g 1) _ _ h,Below.heap_setCell _ (U g 0) _ _ h]
theorem below4s{B:Nat}(h:B<=g)(a b c d:N):Below B w (vw w g a b c d):=((((Below.refl _ _).setCell (p:=(U g 0)) h _).setCell (p:=(U g 1)) h _).setCell (p:=(U g 2)) h _).setCell (p:=(U g 3)) h _
theorem zeZ(w:Z)(g:Nat)(a b c d:N):(vw w g a b c d).1.size=w.1.size:=by simp[vw]
theorem zak{t:TypeId}(h:w.1[g]?=Q (.cells #[p,q,r,s] t fr))(a b c d:N)(o:Obj):((vw w g a b c d).alloc o).1[g]?=Q (.cells #[a,b,c,d] t fr):=
 (Below.heap_alloc _ _ _ (by rw[zeZ];exact zd h)).trans (zaF h a b c d)
theorem znX(w:Z)(g:Nat)(a b c d:N)(o:Obj):((vw w g a b c d).alloc o).1[w.1.size]?=Q o:=by have:=zo (vw w g a b c d) o;rwa[zeZ]at this
theorem znY(h:w.1.size≠g)(a b c d:N)(o:Obj):(vw (w.alloc o) g a b c d).1[w.1.size]?=Q o:=(zaG h a b c d).trans (zo _ _)
theorem zal{t:TypeId}(h:w.1[g]?=Q (.cells #[p,q,r,s] t fr))(a b c d:N)(o:Obj):(vw (w.alloc o) g a b c d).1[g]?=Q (.cells #[a,b,c,d] t fr):=
 zaF ((Below.heap_alloc _ _ _ (zd h)).trans h) a b c d
theorem zaP{t:TypeId}(hn:g≠k)(h:w.1[g]?=Q (.cells #[p,q,r,s] t fr))(a b c d a' b' e f:N):(vw (vw w g a b c d) k a' b' e f).1[g]?=Q (.cells #[a,b,c,d] t fr):=(zaG hn a' b' e f).trans (zaF h a b c d)
theorem zaQ{t:TypeId}(hn:k≠g)(h:w.1[k]?=Q (.cells #[p,q,r,s] t fr))(a b c d a' b' e f:N):(vw (vw w g a b c d) k a' b' e f).1[k]?=Q (.cells #[a',b',e,f] t fr):=zaF ((zaG hn a b c d).trans h) a' b' e f
theorem bel_aa(h:Below n0 w V)(b:n0<=V.1.size)(o a:Obj):Below n0 w ((V.alloc o).alloc a):=(h.alloc b o).alloc (by rw[zE];omega) a
theorem bel_sa(h:Below n0 w V)(e:n0<=V.1.size)(f:n0<=g)(a b c d:N)(o:Obj):Below n0 w ((vw V g a b c d).alloc o):=(h.trans (below4s f a b c d)).alloc (by rw[zeZ];exact e) o
theorem bel_as(h:Below n0 w V)(e:n0<=V.1.size)(f:n0<=g)(a b c d:N)(o:Obj):Below n0 w (vw (V.alloc o) g a b c d):=(h.alloc e o).trans (below4s f a b c d)
theorem bel_ss(h:Below n0 w V)(i:n0<=g)(j:n0<=k)(a b c d a' b' e f:N):Below n0 w (vw (vw V g a b c d) k a' b' e f):=(h.trans (below4s i a b c d)).trans (below4s j a' b' e f)
def yh(x y:Tsk):Int:=orL [jh x.kd y.kd,jh x.s.t y.s.t,jh x.s.se y.s.se,jh x.s.we y.s.we]
theorem zfv(x y:Tsk):orL [jh x.kd y.kd,zeM x.s y.s]=yh x y:=by
 unfold yh zeM;simp only[orL];repeat' split
 all_goals omega
end Go.Proofs.YtndhpgciopcncaaGreatDoor
namespace Go.Proofs.YtndhpgciopcncaaGreatDoor.Dr
open Go.RowKit Go.Maps Go.Shelf
theorem kind_Roll(s:Sg)(w:Z):Calls prog 334 #[.agg #[I s.t,I s.se,I s.we]] w fun e w'=>e=.returned (I 1)/\Below w.1.size w w':=by
 go_in;go_wp2_with fail;go_ret;exact⟨rfl,(Below.refl _ _).alloc (E _) _⟩
theorem segm_Roll(s:Sg)(w:Z):Calls prog 335 #[.agg #[I s.t,I s.se,I s.we]] w fun e w'=>e=.returned (.agg #[I s.t,I s.se,I s.we])/\Below w.1.size w w':=by
 obtain⟨c,b,a,d⟩:=box2 w (.cells #[I s.t,I s.se,I s.we] 195) (.cells #[I s.t,I s.se,I s.we] 146);go_in;go_wp2_with fail;refine bodyPost_ret (v:=.agg #[I s.t,I s.se,I s.we]) (results_cell_row results335 _ _ (w.1.size+1) _ _ _ _ rfl b underlying146 rfl (by kernel_rfl)) rfl ?_;exact⟨rfl,a⟩
theorem keyOf_Roll(s:Sg)(w:Z):Calls prog 102 #[.iface 195 (.agg #[I s.t,I s.se,I s.we])] w fun e w'=>e=.returned (.agg #[I 1,I s.t,I s.se,I s.we])/\Below w.1.size w w':=by
 have b0:=zo w zcI;have m:=zE w zcI;have g:Below w.1.size w (w.alloc zcI):=(Below.refl _ _).alloc (E _) _;have p:=fun W=>ze (kind_Roll s W);have q:=fun W=>ze (segm_Roll s W);have B0:=ze b0;have n:=ze m;have h:=ze g;clear b0 m g;have x:=jy s;have y:=jH s;go_in;go_wp2_with(first
  |(go_at_call 334;refine(p _).mono ?_;rintro e w1 ⟨rfl,a⟩;have c:=ze a;clear a)
  |(go_at_call 335;refine(q _).mono ?_;rintro e w2 ⟨rfl,b⟩;have d:w.1.size<(w.alloc zcI).1.size:=(by rw[ud n];omega);have f:=(b.block w.1.size (J d c.size)).trans ((c.block w.1.size d).trans B0);obtain⟨z,A,B,C,-⟩:=zc f;have D:=fun j=>zI f j;have u:=zd f;have o:=ze f;have k:=ze b;clear b f d))
 have r:=xq (i:=3) (xq (i:=2) (xq (i:=1) (xq (i:=0) o (I 1)) (I s.t)) (I s.se)) (I s.we);refine bodyPost_ret (v:=.agg #[I 1,I s.t,I s.se,I s.we]) (results_cell_row results102 _ _ w.1.size _ _ _ _ rfl r underlying162 rfl (by kernel_rfl)) rfl ?_;have l:=ud h;have a:=ud c;have b:=ud k;exact⟨rfl,(l.trans (a.mono l.size)).trans ((b.mono (S l.size a.size)).trans (below4 (E _) _ _ _ _))⟩
theorem kind_Reclaim(s:Sg)(w:Z):Calls prog 337 #[.agg #[I s.t,I s.se,I s.we]] w fun e w'=>e=.returned (I 2)/\Below w.1.size w w':=by
 go_in;go_wp2_with fail;go_ret;exact⟨rfl,(Below.refl _ _).alloc (E _) _⟩
theorem segm_Reclaim(s:Sg)(w:Z):Calls prog 338 #[.agg #[I s.t,I s.se,I s.we]] w fun e w'=>e=.returned (.agg #[I s.t,I s.se,I s.we])/\Below w.1.size w w':=by
 obtain⟨c,b,a,d⟩:=box2 w (.cells #[I s.t,I s.se,I s.we] 197) (.cells #[I s.t,I s.se,I s.we] 146);go_in;go_wp2_with fail;refine bodyPost_ret (v:=.agg #[I s.t,I s.se,I s.we]) (results_cell_row results338 _ _ (w.1.size+1) _ _ _ _ rfl b underlying146 rfl (by kernel_rfl)) rfl ?_;exact⟨rfl,a⟩
theorem keyOf_Reclaim(s:Sg)(w:Z):Calls prog 102 #[.iface 197 (.agg #[I s.t,I s.se,I s.we])] w fun e w'=>e=.returned (.agg #[I 2,I s.t,I s.se,I s.we])/\Below w.1.size w w':=by
 have b0:=zo w zcI;have m:=zE w zcI;have g:Below w.1.size w (w.alloc zcI):=(Below.refl _ _).alloc (E _) _;have p:=fun W=>ze (kind_Reclaim s W);have q:=fun W=>ze (segm_Reclaim s W);have B0:=ze b0;have n:=ze m;have h:=ze g;clear b0 m g;have x:=kE s;have y:=vn s;go_in;go_wp2_with(first
  |(go_at_call 337;refine(p _).mono ?_;rintro e w1 ⟨rfl,a⟩;have c:=ze a;clear a)
  |(go_at_call 338;refine(q _).mono ?_;rintro e w2 ⟨rfl,b⟩;have d:w.1.size<(w.alloc zcI).1.size:=(by rw[ud n];omega);have f:=(b.block w.1.size (J d c.size)).trans ((c.block w.1.size d).trans B0);obtain⟨z,A,B,C,-⟩:=zc f;have D:=fun j=>zI f j;have u:=zd f;have o:=ze f;have k:=ze b;clear b f d))
 have r:=xq (i:=3) (xq (i:=2) (xq (i:=1) (xq (i:=0) o (I 2)) (I s.t)) (I s.se)) (I s.we);refine bodyPost_ret (v:=.agg #[I 2,I s.t,I s.se,I s.we]) (results_cell_row results102 _ _ w.1.size _ _ _ _ rfl r underlying162 rfl (by kernel_rfl)) rfl ?_;have l:=ud h;have a:=ud c;have b:=ud k;exact⟨rfl,(l.trans (a.mono l.size)).trans ((b.mono (S l.size a.size)).trans (below4 (E _) _ _ _ _))⟩
theorem keyOf_any(x:Tsk)(w:Z):Calls prog 102 #[(jZz x)] w fun e w'=>e=.returned (.agg #[I x.kd,I x.s.t,I x.s.se,I x.s.we])/\Below w.1.size w w':=by
 obtain⟨rl,s,a,b,c⟩:=x;cases rl with
 |true=>exact keyOf_Roll s w
 |false=>exact keyOf_Reclaim s w
theorem below_more{a w:Z}(h:Below a.1.size a w)(o:Obj):Below a.1.size a (w.alloc o):=h.alloc h.size o
theorem below4s{B:Nat}{w:Z}{g:Nat}(h:B<=g)(a b c d:N):Below B w (vw w g a b c d):=((((Below.refl _ _).setCell (p:=(U g 0)) h _).setCell (p:=(U g 1)) h _).setCell (p:=(U g 2)) h _).setCell (p:=(U g 3)) h _
theorem bel_aa{n0:Nat}{w V:Z}(h:Below n0 w V)(b:n0<=V.1.size)(o a:Obj):Below n0 w ((V.alloc o).alloc a):=(h.alloc b o).alloc (by rw[zE];omega) a
theorem bel_sa{n0 g:Nat}{w V:Z}(h:Below n0 w V)(e:n0<=V.1.size)(f:n0<=g)(a b c d:N)(o:Obj):Below n0 w ((vw V g a b c d).alloc o):=(h.trans (below4s f a b c d)).alloc (by rw[zeZ];exact e) o
theorem bel_as{n0 g:Nat}{w V:Z}(h:Below n0 w V)(e:n0<=V.1.size)(f:n0<=g)(a b c d:N)(o:Obj):Below n0 w (vw (V.alloc o) g a b c d):=(h.alloc e o).trans (below4s f a b c d)
theorem bel_ss{n0 g k:Nat}{w V:Z}(h:Below n0 w V)(i:n0<=g)(j:n0<=k)(a b c d a' b' e f:N):Below n0 w (vw (vw V g a b c d) k a' b' e f):=(h.trans (below4s i a b c d)).trans (below4s j a' b' e f)
theorem byKey_any(x y:Tsk)(w:Z):
  Calls prog 106 #[.agg (tZz x),.agg (tZz y)] w fun e w'=>e=.returned (I (yh x y))/\Below w.1.size w w':=by
 have ab:=fun W=>ze (keyOf_any x W);have B:=fun W=>ze (keyOf_any y W);obtain⟨b1,b2,aB,bz⟩:=box2 w (.cells (tZz x) 177) (.cells (tZz y) 177);obtain⟨x0,-⟩:=zc b1;obtain⟨y0,-⟩:=zc b2;have ay:=ze aB;clear b1 b2 aB;go_in;go_wp2_with fail;generalize((w.alloc (.cells (tZz x) 177)).alloc (.cells (tZz y) 177))=X at*;have z:w.1.size<X.1.size:=by omega
 have l1:w.1.size+1<X.1.size:=by omega
 have bb:¬w.1.size=w.1.size+1:=by omega
 generalize w.1.size+1=o at*;generalize aC:w.1.size=n0 at*;clear bz;rename_i Q1 K1 hK1;have ac:∀(H bk:Nat) (Y:Z),Y.1[H]?=Q (.cells #[I x.kd,I x.s.t,I x.s.se,I x.s.we] 162 (0,0))->Y.1[bk]?=Q (.cells #[I y.kd,I y.s.t,I y.s.se,I y.s.we] 162 (0,0))->Below n0 w Y->K1 {tmps:=#[.agg (tZz x),.agg (tZz y),(O n0),(O o),I 0,(O H),(O bk),(O n0),(jZz x),.agg #[I x.kd,I x.s.t,I x.s.se,I x.s.we],(O o),(jZz y),.agg #[I y.kd,I y.s.t,I y.s.se,I y.s.we],u_,u_,u_,u_,u_,u_,u_,u_,u_,u_,u_,u_],defers:=[]} Y:=by
  intro H bk Y hj hk hY;apply hK1;clear ab B x0 y0 z l1 ay hK1;have HY:=ze hY;clear hY;have aY:=fun(a b:Int) W=>ze (vr a b W);have an:∀V W:Z,W.1[V.1.size]?=Q (.cells #[I (jh x.kd y.kd),I (zeM x.s y.s)] 3)->Hid (Calls prog 163 #[.slice (Q (U V.1.size 0)) 2 2] W fun e w'=>e=.returned (I (yh x y))/\w'=W):=fun V W hW=>by
   have h:=ziU [jh x.kd y.kd,zeM x.s y.s] (by simp) W V.1.size (fun k v hk=>by
    rw[xd hW]
    match k,hk with
    |0,hk=>simp at hk;subst hk;rfl
    |1,hk=>simp at hk;subst hk;rfl)
   rw[zfv]at h;exact h
  have aZ:=ze (Y7 x.s y.s Y);have b0:=ze (Y7 x.s y.s Y.drew);obtain⟨j0,j1,j2,j3,-⟩:=zc hj;obtain⟨k0,k1,k2,k3,-⟩:=zc hk;have a3:=zd hj;have a4:=zd hk;clear hj hk;generalize aA:yh x y=BV at*;have ax:=ze aA;clear aA;generalize bq:jh x.kd y.kd=C0 at*;generalize br:zeM x.s y.s=C1 at*;go_wp2_with fail;go_region_held3 (fun w'=>w'.cell? (U H 0)=Q (I x.kd)/\w'.cell? (U H 1)=Q (I x.s.t)/\w'.cell? (U H 2)=Q (I x.s.se)/\w'.cell? (U H 3)=Q (I x.s.we)/\w'.cell? (U bk 0)=Q (I y.kd)/\w'.cell? (U bk 1)=Q (I y.s.t)/\w'.cell? (U bk 2)=Q (I y.s.se)/\w'.cell? (U bk 3)=Q (I y.s.we)) (go_keep) (first
   |(go_at_call 162;(with_reducible refine(ud (aY _ _ _)).mono ?_);rintro e V0 ⟨rfl,rfl⟩)
   |(go_at_call 166;(first|(with_reducible refine(ud aZ).mono ?_)|(with_reducible refine(ud b0).mono ?_));rintro e V ⟨rfl,ao⟩;have R:Dr.Below Y.1.size Y V:=(by first|exact ao|exact((Dr.Below.refl Y.1.size Y).drew).trans ao);have bK:Cz V H 0 (I x.kd):=(R.cell (p:=(U H 0)) a3).trans j0;have bL:Cz V H 1 (I x.s.t):=(R.cell (p:=(U H 1)) a3).trans j1;have bM:Cz V H 2 (I x.s.se):=(R.cell (p:=(U H 2)) a3).trans j2;have bN:Cz V H 3 (I x.s.we):=(R.cell (p:=(U H 3)) a3).trans j3;have bO:Cz V bk 0 (I y.kd):=(R.cell (p:=(U bk 0)) a4).trans k0;have bP:Cz V bk 1 (I y.s.t):=(R.cell (p:=(U bk 1)) a4).trans k1;have bQ:Cz V bk 2 (I y.s.se):=(R.cell (p:=(U bk 2)) a4).trans k2;have bR:Cz V bk 3 (I y.s.we):=(R.cell (p:=(U bk 3)) a4).trans k3;have bu:=J a3 R.size;have bv:=J a4 R.size;have b3:=an V (V.alloc (.cells #[I C0,I C1] 3)) (zo _ _);have b4:=an V (V.alloc (.cells #[I C0,I C1] 3)).drew (zo _ _);have b5:=an V (V.drew.alloc (.cells #[I C0,I C1] 3)) (zo V.drew _);have HV:=ze R;clear R ao)
   |(go_at_call 163;(first|(with_reducible refine(ud b3).mono ?_)|(with_reducible refine(ud b4).mono ?_)|(with_reducible refine(ud b5).mono ?_));rintro e V9 ⟨rfl,rfl⟩))
  all_goals go_wp2_with fail
  all_goals go_ret
  all_goals have hY:=HY.trans (HV.mono (by have:=HY.size;omega))
  all_goals first|exact⟨by rw[ud ax];rfl,by rw[aC];exact hY.alloc (by have:=hY.size;omega) _⟩|exact⟨by rw[ud ax];rfl,by rw[aC];exact(hY.alloc (by have:=hY.size;omega) _).drew⟩
 have b6:=ze ac;clear hK1 ac;go_region_held3 (fun w'=>w'.cell? (U n0 0)=Q (jZz x)/\w'.cell? (U o 0)=Q (jZz y)) (go_keep) (first
  |(go_at_call 102;(with_reducible refine(ud (ab _)).mono ?_);rintro e i ⟨rfl,m⟩;have r:i.1[X.1.size]?=Q (.cells #[I 0,I 0,I 0,I 0] 162 (0,0)):=(m.block _ (by first|(simp;done)|(simp;omega))).trans (zdh _ _ _);have a5:i.1[X.1.size+1]?=Q (.cells #[I 0,I 0,I 0,I 0] 162 (0,0)):=(m.block _ (by simp)).trans (zdi _ _ _);obtain⟨bc,bd,be,bf,-⟩:=zc r;have bg:=fun j=>zI r j;have bh:=zd r;have af:¬n0=X.1.size:=(by omega);have ad:¬X.1.size=n0:=(by omega);have ag:¬o=X.1.size:=(by omega);have ae:¬X.1.size=o:=(by omega);obtain⟨bw,bx,bA,bB,-⟩:=zc a5;have bC:=fun j=>zI a5 j;have bD:=zd a5;have aI:¬n0=X.1.size+1:=(by omega);have aF:¬X.1.size+1=n0:=(by omega);have aJ:¬o=X.1.size+1:=(by omega);have aG:¬X.1.size+1=o:=(by omega);have aK:¬X.1.size=X.1.size+1:=(by omega);have aH:¬X.1.size+1=X.1.size:=(by omega);have D:=ze r;have az:=ze a5;clear r;clear a5;have l:Below X.1.size X i:=Below.trans (b:=_) (by(repeat(first|exact Below.refl _ _|assumption|apply Below.drew|apply below_more))) (m.mono (by first|exact E _|(simp;done)|(simp;omega)));have x1:=(l.cell (p:=(U n0 0)) z).trans x0;have y1:=(l.cell (p:=(U o 0)) l1).trans y0;have aD:=J z l.size;have aE:=J l1 l.size;have q:=ze l;clear m l)
  |(go_at_call 102;(with_reducible refine(ud (ab _)).mono ?_);rintro e i ⟨rfl,m⟩;have r:i.1[X.1.size]?=Q (.cells #[I 0,I 0,I 0,I 0] 162 (0,0)):=(m.block _ (by simp)).trans (zib _ _);obtain⟨bc,bd,be,bf,-⟩:=zc r;have bg:=fun j=>zI r j;have bh:=zd r;have af:¬n0=X.1.size:=(by omega);have ad:¬X.1.size=n0:=(by omega);have ag:¬o=X.1.size:=(by omega);have ae:¬X.1.size=o:=(by omega);have D:=ze r;clear r;have l:Below X.1.size X i:=Below.trans (b:=_) (by(repeat(first|exact Below.refl _ _|assumption|apply Below.drew|apply below_more))) (m.mono (by first|exact E _|(simp;done)|(simp;omega)));have x1:=(l.cell (p:=(U n0 0)) z).trans x0;have y1:=(l.cell (p:=(U o 0)) l1).trans y0;have aD:=J z l.size;have aE:=J l1 l.size;have q:=ze l;clear m l)
  |(go_at_call 102;(with_reducible refine(ud (ab _)).mono ?_);rintro e i ⟨rfl,m⟩;have l:Below X.1.size X i:=Below.trans (b:=_) (by(repeat(first|exact Below.refl _ _|assumption|apply Below.drew|apply below_more))) (m.mono (by first|exact E _|(simp;done)|(simp;omega)));have x1:=(l.cell (p:=(U n0 0)) z).trans x0;have y1:=(l.cell (p:=(U o 0)) l1).trans y0;have aD:=J z l.size;have aE:=J l1 l.size;have q:=ze l;clear m l)
  |(go_at_call 102;(with_reducible refine(ud (B _)).mono ?_);rintro e u ⟨rfl,f⟩;have d:Below i.1.size i u:=Below.trans (b:=_) (by(repeat(first|exact Below.refl _ _|assumption|apply Below.drew|apply below_more))) (f.mono (by first|exact E _|(simp;done)|(simp;omega)));have g:=(d.block _ (zd D)).trans D;obtain⟨ah,ai,aj,ak,-⟩:=zc g;have al:=fun j=>zI g j;have am:=zd g;have M:¬n0=X.1.size:=(by omega);have K:¬X.1.size=n0:=(by omega);have P:¬o=X.1.size:=(by omega);have L:¬X.1.size=o:=(by omega);have F:=ze g;clear g;have A:=(d.block _ (zd az)).trans az;obtain⟨bi,bl,bm,bn,-⟩:=zc A;have bo:=fun j=>zI A j;have bp:=zd A;have au:¬n0=X.1.size+1:=(by omega);have ap:¬X.1.size+1=n0:=(by omega);have av:¬o=X.1.size+1:=(by omega);have aq:¬X.1.size+1=o:=(by omega);have aw:¬X.1.size=X.1.size+1:=(by omega);have ar:¬X.1.size+1=X.1.size:=(by omega);have T:=ze A;clear A;have c:Below X.1.size X u:=q.trans (d.mono q.size);have x2:=(c.cell (p:=(U n0 0)) z).trans x0;have y2:=(c.cell (p:=(U o 0)) l1).trans y0;have a1:=J z c.size;have a2:=J l1 c.size;have C:=ze c;clear f c d)
  |(go_at_call 102;(with_reducible refine(ud (B _)).mono ?_);rintro e u ⟨rfl,f⟩;have n:u.1[i.1.size]?=Q (.cells #[I 0,I 0,I 0,I 0] 162 (0,0)):=(f.block _ (by simp)).trans (zib _ _);obtain⟨aL,aM,aN,aO,-⟩:=zc n;have aP:=fun j=>zI n j;have val:=zd n;have a8:¬n0=i.1.size:=(by omega);have a6:¬i.1.size=n0:=(by omega);have a9:¬o=i.1.size:=(by omega);have a7:¬i.1.size=o:=(by omega);have aR:¬X.1.size=i.1.size:=(by omega);have aQ:¬i.1.size=X.1.size:=(by omega);have G:=ze n;clear n;have d:Below i.1.size i u:=Below.trans (b:=_) (by(repeat(first|exact Below.refl _ _|assumption|apply Below.drew|apply below_more))) (f.mono (by first|exact E _|(simp;done)|(simp;omega)));have g:=(d.block _ (zd D)).trans D;obtain⟨ah,ai,aj,ak,-⟩:=zc g;have al:=fun j=>zI g j;have am:=zd g;have M:¬n0=X.1.size:=(by omega);have K:¬X.1.size=n0:=(by omega);have P:¬o=X.1.size:=(by omega);have L:¬X.1.size=o:=(by omega);have F:=ze g;clear g;have c:Below X.1.size X u:=q.trans (d.mono q.size);have x2:=(c.cell (p:=(U n0 0)) z).trans x0;have y2:=(c.cell (p:=(U o 0)) l1).trans y0;have a1:=J z c.size;have a2:=J l1 c.size;have C:=ze c;clear f c d)
  |(go_at_call 102;(with_reducible refine(ud (B _)).mono ?_);rintro e u ⟨rfl,f⟩;have d:Below i.1.size i u:=Below.trans (b:=_) (by(repeat(first|exact Below.refl _ _|assumption|apply Below.drew|apply below_more))) (f.mono (by first|exact E _|(simp;done)|(simp;omega)));have g:=(d.block _ (zd D)).trans D;obtain⟨ah,ai,aj,ak,-⟩:=zc g;have al:=fun j=>zI g j;have am:=zd g;have M:¬n0=X.1.size:=(by omega);have K:¬X.1.size=n0:=(by omega);have P:¬o=X.1.size:=(by omega);have L:¬X.1.size=o:=(by omega);have F:=ze g;clear g;have c:Below X.1.size X u:=q.trans (d.mono q.size);have x2:=(c.cell (p:=(U n0 0)) z).trans x0;have y2:=(c.cell (p:=(U o 0)) l1).trans y0;have a1:=J z c.size;have a2:=J l1 c.size;have C:=ze c;clear f c d)
  |(go_at_call 102;(with_reducible refine(ud (B _)).mono ?_);rintro e u ⟨rfl,f⟩;have n:u.1[i.1.size]?=Q (.cells #[I 0,I 0,I 0,I 0] 162 (0,0)):=(f.block _ (by first|(simp;done)|(simp;omega))).trans (zdh _ _ _);have aa:u.1[i.1.size+1]?=Q (.cells #[I 0,I 0,I 0,I 0] 162 (0,0)):=(f.block _ (by simp)).trans (zdi _ _ _);obtain⟨aL,aM,aN,aO,-⟩:=zc n;have aP:=fun j=>zI n j;have val:=zd n;have a8:¬n0=i.1.size:=(by omega);have a6:¬i.1.size=n0:=(by omega);have a9:¬o=i.1.size:=(by omega);have a7:¬i.1.size=o:=(by omega);obtain⟨bE,bF,bG,bH,-⟩:=zc aa;have bI:=fun j=>zI aa j;have bJ:=zd aa;have aV:¬n0=i.1.size+1:=(by omega);have aS:¬i.1.size+1=n0:=(by omega);have aW:¬o=i.1.size+1:=(by omega);have aT:¬i.1.size+1=o:=(by omega);have aX:¬i.1.size=i.1.size+1:=(by omega);have aU:¬i.1.size+1=i.1.size:=(by omega);have G:=ze n;have a0:=ze aa;clear n;clear aa;have d:Below i.1.size i u:=Below.trans (b:=_) (by(repeat(first|exact Below.refl _ _|assumption|apply Below.drew|apply below_more))) (f.mono (by first|exact E _|(simp;done)|(simp;omega)));have c:Below X.1.size X u:=q.trans (d.mono q.size);have x2:=(c.cell (p:=(U n0 0)) z).trans x0;have y2:=(c.cell (p:=(U o 0)) l1).trans y0;have a1:=J z c.size;have a2:=J l1 c.size;have C:=ze c;clear f c d)
  |(go_at_call 102;(with_reducible refine(ud (B _)).mono ?_);rintro e u ⟨rfl,f⟩;have n:u.1[i.1.size]?=Q (.cells #[I 0,I 0,I 0,I 0] 162 (0,0)):=(f.block _ (by simp)).trans (zib _ _);obtain⟨aL,aM,aN,aO,-⟩:=zc n;have aP:=fun j=>zI n j;have val:=zd n;have a8:¬n0=i.1.size:=(by omega);have a6:¬i.1.size=n0:=(by omega);have a9:¬o=i.1.size:=(by omega);have a7:¬i.1.size=o:=(by omega);have G:=ze n;clear n;have d:Below i.1.size i u:=Below.trans (b:=_) (by(repeat(first|exact Below.refl _ _|assumption|apply Below.drew|apply below_more))) (f.mono (by first|exact E _|(simp;done)|(simp;omega)));have c:Below X.1.size X u:=q.trans (d.mono q.size);have x2:=(c.cell (p:=(U n0 0)) z).trans x0;have y2:=(c.cell (p:=(U o 0)) l1).trans y0;have a1:=J z c.size;have a2:=J l1 c.size;have C:=ze c;clear f c d)
  |(go_at_call 102;(with_reducible refine(ud (B _)).mono ?_);rintro e u ⟨rfl,f⟩;have d:Below i.1.size i u:=Below.trans (b:=_) (by(repeat(first|exact Below.refl _ _|assumption|apply Below.drew|apply below_more))) (f.mono (by first|exact E _|(simp;done)|(simp;omega)));have c:Below X.1.size X u:=q.trans (d.mono q.size);have x2:=(c.cell (p:=(U n0 0)) z).trans x0;have y2:=(c.cell (p:=(U o 0)) l1).trans y0;have a1:=J z c.size;have a2:=J l1 c.size;have C:=ze c;clear f c d))
 all_goals show K1 _ _
 all_goals(have hB:=ay.trans (C.mono (show n0<=X.1.size by omega));have bt:=C.size;have bs:=q.size)
 all_goals try clear af
 all_goals try clear ag
 all_goals try clear uan2
 all_goals try clear uan3
 all_goals try clear uan4
 all_goals try clear ad
 all_goals try clear ae
 all_goals try clear uam2
 all_goals try clear uam3
 all_goals try clear uam4
 all_goals try clear aI
 all_goals try clear aJ
 all_goals try clear aK
 all_goals try clear ubn3
 all_goals try clear ubn4
 all_goals try clear aF
 all_goals try clear aG
 all_goals try clear aH
 all_goals try clear ubm3
 all_goals try clear ubm4
 all_goals try clear a8
 all_goals try clear a9
 all_goals try clear aR
 all_goals try clear van3
 all_goals try clear van4
 all_goals try clear a6
 all_goals try clear a7
 all_goals try clear aQ
 all_goals try clear vam3
 all_goals try clear vam4
 all_goals try clear aV
 all_goals try clear aW
 all_goals try clear aX
 all_goals try clear vbn3
 all_goals try clear vbn4
 all_goals try clear aS
 all_goals try clear aT
 all_goals try clear aU
 all_goals try clear vbm3
 all_goals try clear vbm4
 all_goals try clear M
 all_goals try clear P
 all_goals try clear uavn2
 all_goals try clear uavn3
 all_goals try clear uavn4
 all_goals try clear K
 all_goals try clear L
 all_goals try clear uavm2
 all_goals try clear uavm3
 all_goals try clear uavm4
 all_goals try clear au
 all_goals try clear av
 all_goals try clear aw
 all_goals try clear ubvn3
 all_goals try clear ubvn4
 all_goals try clear ap
 all_goals try clear aq
 all_goals try clear ar
 all_goals try clear ubvm3
 all_goals try clear ubvm4
 all_goals try clear bb
 all_goals(with_reducible refine ud b6 _ _ _ ?_ ?_ ?_)
 all_goals(try have b9:=zd G)
 all_goals(try have ba:=zd a0)
 all_goals(try have b7:=zd F)
 all_goals(try have b8:=zd T)
 all_goals(first
  |(with_reducible exact zdh _ _ _)
  |(with_reducible exact zdi _ _ _)
  |(with_reducible exact znX _ _ _ _ _ _ _)
  |(with_reducible exact zak (ud G) _ _ _ _ _)
  |(with_reducible exact zal (ud G) _ _ _ _ _)
  |(with_reducible exact zak (ud a0) _ _ _ _ _)
  |(with_reducible exact zal (ud a0) _ _ _ _ _)
  |(with_reducible exact zak (ud F) _ _ _ _ _)
  |(with_reducible exact zal (ud F) _ _ _ _ _)
  |(with_reducible exact zak (ud T) _ _ _ _ _)
  |(with_reducible exact zal (ud T) _ _ _ _ _)
  |(with_reducible exact znY (by omega) _ _ _ _ _)
  |(with_reducible exact zaP (by omega) (ud G) _ _ _ _ _ _ _ _)
  |(with_reducible exact zaQ (by omega) (ud G) _ _ _ _ _ _ _ _)
  |(with_reducible exact zaP (by omega) (ud a0) _ _ _ _ _ _ _ _)
  |(with_reducible exact zaQ (by omega) (ud a0) _ _ _ _ _ _ _ _)
  |(with_reducible exact zaP (by omega) (ud F) _ _ _ _ _ _ _ _)
  |(with_reducible exact zaQ (by omega) (ud F) _ _ _ _ _ _ _ _)
  |(with_reducible exact zaP (by omega) (ud T) _ _ _ _ _ _ _ _)
  |(with_reducible exact zaQ (by omega) (ud T) _ _ _ _ _ _ _ _)
  |((with_reducible refine bel_aa hB ?_ _ _)<;>omega)
  |((with_reducible refine bel_sa hB ?_ ?_ _ _ _ _ _)<;>omega)
  |((with_reducible refine bel_as hB ?_ ?_ _ _ _ _ _)<;>omega)
  |((with_reducible refine bel_ss hB ?_ ?_ _ _ _ _ _ _ _ _)<;>omega))
end Go.Proofs.YtndhpgciopcncaaGreatDoor.Dr
namespace Go.Proofs.YtndhpgciopcncaaGreatDoor
open Go.ChangeMaps (setBlock)
open Go.RowKit Go.Maps Go.Shelf
variable {c:Cf} {ep num:Int} {TL:List (Jk×Tsk)} {QL:List (Tok×Lse)} {b cap qb tb:Nat} {a:Option Addr} {w:Z}
theorem byKey_any(x y:Tsk)(w:Z):
  Calls prog 106 #[.agg (tZz x),.agg (tZz y)] w (Rz w (I (yh x y))):=
 (Dr.byKey_any x y w).mono fun e w' ⟨a,b⟩=>⟨a,b.bel⟩
structure Vs(c:Cf)(now:Int)(x:Tsk):Prop where
 t1: -1<=x.s.t
 t2:x.s.t<c.n
 we:0<=x.s.we/\x.s.we<=100000
 si:0<=x.si/\x.si<=now
def yO(c:Cf)(now:Int)(x:Tsk):Int:=match x.rl with
 |true=>(x.s.we+1)*c.wh x.s.t-(now-x.si)/4
 |false=>(x.s.we+1)*c.wh x.s.t+c.keep x.s.t-(now-x.si)/4
theorem zbZ(h:zN w b c (.slice a c.n cap) ep num tb qb TL QL)(m:c.ok)(j:TS w a c.n c.F c.W c.K)(now:Int)(d:0<=now/\now<=100000)(x:Tsk)(f:Vs c now x)(g i:Nat)(l1:g<w.1.size)(l2:i<w.1.size)(k:w.cell? (U g 0)=Q (O b))(l:w.cell? (U i 0)=Q (I now)):
  Calls prog 160 #[.agg (tZz x),(O g),(O i)] w fun e w'=>e=.returned (I (yO c now x))/\Below w.1.size w w':=by
 obtain⟨rl,s,si,tc,rest⟩:=x;cases rl with
 |true=>exact zgz h m j s si tc rest now f.t1 f.t2 f.we d f.si g i l1 l2 k l
 |false=>exact zaq h m j s si tc rest now f.t1 f.t2 f.we d f.si g i l1 l2 k l
def zon(a:Bool)(x y:Tsk):Int:=match a with
 |true=>jh y.kd x.kd
 |false=>0
def Vr(c:Cf)(now:Int)(a:Bool)(x y:Tsk):Int:=orL [zon a x y,jh (yO c now x) (yO c now y),yh x y]
theorem zix(s:Sg)(w:Z):Calls prog 334 #[.agg #[I s.t,I s.se,I s.we]] w fun e w'=>e=.returned (I 1)/\Below w.1.size w w':=by
 go_in;go_wp2_with fail;go_ret;first|exact⟨rfl,(Below.refl _ _).alloc (E _) _⟩|exact⟨rfl,Below.refl _ _⟩
theorem ziw(s:Sg)(w:Z):Calls prog 337 #[.agg #[I s.t,I s.se,I s.we]] w fun e w'=>e=.returned (I 2)/\Below w.1.size w w':=by
 go_in;go_wp2_with fail;go_ret;first|exact⟨rfl,(Below.refl _ _).alloc (E _) _⟩|exact⟨rfl,Below.refl _ _⟩
theorem zby(x:Tsk):∃f:Nat,(∀w,(method 518 x.jt (.agg #[I x.s.t,I x.s.se,I x.s.we]) "Kind").run prog w=.ok (f,.agg #[I x.s.t,I x.s.se,I x.s.we]) w)/\(∀w,Calls prog f #[.agg #[I x.s.t,I x.s.se,I x.s.we]] w fun e w'=>e=.returned (I x.kd)/\Below w.1.size w w')/\(∀args w,(callFunc f args).run prog w=.ok (.enter f args) w):=by
 obtain⟨rl,s,si,tc,rest⟩:=x;cases rl with
 |true=>exact⟨334,jy s,zix s,enters_of func334 (by kernel_rfl) rfl⟩
 |false=>exact⟨337,kE s,ziw s,enters_of func337 (by kernel_rfl) rfl⟩
theorem zgo(h:zN w b c (.slice a c.n cap) ep num tb qb TL QL)(hc:c.ok)(aS:TS w a c.n c.F c.W c.K)(now:Int)(ao:0<=now/\now<=100000)(M:Bool)(q:Nat)(hO:zhn w b now M q)(x y:Tsk)(hx:Vs c now x)(hy:Vs c now y):
  Calls prog 161 #[.agg (tZz x),.agg (tZz y),(O (q+2)),(O (q+3))] w fun e w'=>e=.returned (I (Vr c now M x y))/\Below w.1.size w w':=by
 obtain⟨t0,-⟩:=zc hO.b2;have b5:=zd hO.b2;obtain⟨b1,b2,ab,bz⟩:=box2 w (.cells (tZz x) 177) (.cells (tZz y) 177);have b3:=(ab.block _ (zd hO.b3)).trans hO.b3;obtain⟨x0,x1,x2,x3,-⟩:=zc b1;obtain⟨x4,x5,x6,x7,-⟩:=zc b2;obtain⟨x8,-⟩:=zc b3;have be:=hO.later ab;have bc:=zd hO.b0;have bd:=zd hO.b1;have bb:=zd hO.b3;have ag:Hid (∀V:Z,Below ((w.alloc (.cells (tZz x) 177)).alloc (.cells (tZz y) 177)).1.size ((w.alloc (.cells (tZz x) 177)).alloc (.cells (tZz y) 177)) V->w.1.size<=w.1.size->Hid (Calls prog 160 #[.agg (tZz x),(O q),(O (q+1))] V fun e w'=>e=.returned (I (yO c now x))/\Below V.1.size V w')):=fun V hV _=>by
  have hw:=ab.trans (hV.mono ab.size);have aa:=hO.later hw;exact zbZ (h.later hw) hc (aS.below hw) now ao x hx q (q+1) (zd aa.b0) (zd aa.b1) (by rw[xd aa.b0];rfl) (by rw[xd aa.b1];rfl)
 have ah:Hid (∀V:Z,Below ((w.alloc (.cells (tZz x) 177)).alloc (.cells (tZz y) 177)).1.size ((w.alloc (.cells (tZz x) 177)).alloc (.cells (tZz y) 177)) V->w.1.size<=w.1.size->Hid (Calls prog 160 #[.agg (tZz y),(O q),(O (q+1))] V fun e w'=>e=.returned (I (yO c now y))/\Below V.1.size V w')):=fun V hV _=>by
  have hw:=ab.trans (hV.mono ab.size);have aa:=hO.later hw;exact zbZ (h.later hw) hc (aS.below hw) now ao y hy q (q+1) (zd aa.b0) (zd aa.b1) (by rw[xd aa.b0];rfl) (by rw[xd aa.b1];rfl)
 obtain⟨R,hR⟩:∃R,zon M x y=R:=⟨_,rfl⟩;obtain⟨PX,aO⟩:∃PX,yO c now x=PX:=⟨_,rfl⟩;obtain⟨PY,aP⟩:∃PY,yO c now y=PY:=⟨_,rfl⟩;obtain⟨CP,aN⟩:∃CP,jh PX PY=CP:=⟨_,rfl⟩;obtain⟨BK,aM⟩:∃BK,yh x y=BK:=⟨_,rfl⟩;have aK:Hid (Vr c now M x y=orL [R,CP,BK]):=by show _=_;unfold Vr;rw[hR,aO,aP,aN,aM]
 rw[aO]at ag;rw[aP]at ah;have av:=fun W=>ze (byKey_any x y W);simp only[aM]at av;have aw:=fun W=>ze (vr PX PY W);simp only[aN]at aw;have a9:∀(Y W:Z),W.1[Y.1.size]?=Q (.cells #[I R,I CP,I BK] 3)->Hid (Calls prog 163 #[.slice (Q (U Y.1.size 0)) 3 3] W fun e w'=>e=.returned (I (orL [R,CP,BK]))/\w'=W):=fun Y W hW=>
  ziU [R,CP,BK] (by simp) W Y.1.size (fun k v hk=>by
   rw[xd hW]
   match k,hk with
   |0,hk=>simp at hk;subst hk;rfl
   |1,hk=>simp at hk;subst hk;rfl
   |2,hk=>simp at hk;subst hk;rfl)
 have ai:=ze ab;have HR:=ze hR;have tX:=(ab.cell (p:=(U (q+2) 0)) b5).trans t0;clear h hc aS ao hO hx hy aO aP aM hR be b1 b2 b3 ab aN t0;cases M with
 |false=>
  go_enter func161,ntmps161;have ax:(0:Int)=R:=ud HR;go_wp2_with fail;generalize hX:((w.alloc (.cells (tZz x) 177)).alloc (.cells (tZz y) 177))=X at*;have A:w.1.size<X.1.size:=by omega
  have B:w.1.size+1<X.1.size:=by omega
  have au:q+3<X.1.size:=by omega
  have aW:q<X.1.size:=by omega
  have b4:q+1<X.1.size:=by omega
  have z:Hid (w.1.size<=X.1.size):=by show _<=_;omega
  clear hX bz bb bc bd b5 tX;generalize w.1.size+1=d at*;generalize aR:w.1.size=n0 at*;rw[ax];have ba:Below X.1.size X X:=Below.refl _ _;obtain⟨V,aQ⟩:∃V,X=V:=⟨_,rfl⟩;have j:Hid (Below X.1.size X V):=by rw[<-aQ];exact ba
  rw[aQ];have v0:Cz V n0 0 (jZz x):=((ud j).cell (p:=(U n0 0)) A).trans x0;have v1:Cz V n0 1 (I x.si):=((ud j).cell (p:=(U n0 1)) A).trans x1;have v2:Cz V n0 2 (I x.tc):=((ud j).cell (p:=(U n0 2)) A).trans x2;have v3:Cz V n0 3 (I x.rest):=((ud j).cell (p:=(U n0 3)) A).trans x3;have v4:Cz V d 0 (jZz y):=((ud j).cell (p:=(U d 0)) B).trans x4;have v5:Cz V d 1 (I y.si):=((ud j).cell (p:=(U d 1)) B).trans x5;have v6:Cz V d 2 (I y.tc):=((ud j).cell (p:=(U d 2)) B).trans x6;have v7:Cz V d 3 (I y.rest):=((ud j).cell (p:=(U d 3)) B).trans x7;have v8:Cz V (q+3) 0 (.func (.func 160) #[] #[(O q),(O (q+1))]):=((ud j).cell (p:=(U (q+3) 0)) au).trans x8;have H:=J A (ud j).size;have L:=J B (ud j).size;have ar:=J au (ud j).size;have aV:=J aW (ud j).size;have aZ:=J b4 (ud j).size;clear aQ ba x0 x1 x2 x3 x4 x5 x6 x7 x8;have ac:=ud ag V (ud j) (E _);have ad:=ud ag V.drew (ud j).drew (E _);go_region_held3 (fun w'=>w'.cell? (U n0 0)=Q (jZz x)/\w'.cell? (U n0 1)=Q (I x.si)/\w'.cell? (U n0 2)=Q (I x.tc)/\w'.cell? (U n0 3)=Q (I x.rest)/\w'.cell? (U d 0)=Q (jZz y)/\w'.cell? (U d 1)=Q (I y.si)/\w'.cell? (U d 2)=Q (I y.tc)/\w'.cell? (U d 3)=Q (I y.rest)/\w'.cell? (U (q+3) 0)=Q (.func (.func 160) #[] #[(O q),(O (q+1))])) (go_keep) (first
   |(go_at_call 160;(first|(with_reducible refine(ud ac).mono ?_)|(with_reducible refine(ud ad).mono ?_));rintro e s ⟨rfl,l⟩;have f:Below V.1.size V s:=⟨l.os,l.tape,l.output,l.size,l.block⟩;clear l;have a0:Cz s n0 0 (jZz x):=(f.cell (p:=(U n0 0)) H).trans v0;have a1:Cz s n0 1 (I x.si):=(f.cell (p:=(U n0 1)) H).trans v1;have a2:Cz s n0 2 (I x.tc):=(f.cell (p:=(U n0 2)) H).trans v2;have a3:Cz s n0 3 (I x.rest):=(f.cell (p:=(U n0 3)) H).trans v3;have a4:Cz s d 0 (jZz y):=(f.cell (p:=(U d 0)) L).trans v4;have a5:Cz s d 1 (I y.si):=(f.cell (p:=(U d 1)) L).trans v5;have a6:Cz s d 2 (I y.tc):=(f.cell (p:=(U d 2)) L).trans v6;have a7:Cz s d 3 (I y.rest):=(f.cell (p:=(U d 3)) L).trans v7;have a8:Cz s (q+3) 0 (.func (.func 160) #[] #[(O q),(O (q+1))]):=(f.cell (p:=(U (q+3) 0)) ar).trans v8;have t:=J H f.size;have u:=J L f.size;have ap:=J ar f.size;have aT:=J aV f.size;have aX:=J aZ f.size;have ae:=ud ah s ((ud j).trans (f.mono (ud j).size)) (E _);have af:=ud ah s.drew ((ud j).trans (f.mono (ud j).size)).drew (E _);have al:=ze ((ud j).trans (f.mono (ud j).size));clear f ac ad)
   |(go_at_call 160;(first|(with_reducible refine(ud ae).mono ?_)|(with_reducible refine(ud af).mono ?_));rintro e C ⟨rfl,m⟩;have g:Below s.1.size s C:=⟨m.os,m.tape,m.output,m.size,m.block⟩;clear m;have c0:Cz C n0 0 (jZz x):=(g.cell (p:=(U n0 0)) t).trans a0;have c1:Cz C n0 1 (I x.si):=(g.cell (p:=(U n0 1)) t).trans a1;have c2:Cz C n0 2 (I x.tc):=(g.cell (p:=(U n0 2)) t).trans a2;have c3:Cz C n0 3 (I x.rest):=(g.cell (p:=(U n0 3)) t).trans a3;have c4:Cz C d 0 (jZz y):=(g.cell (p:=(U d 0)) u).trans a4;have c5:Cz C d 1 (I y.si):=(g.cell (p:=(U d 1)) u).trans a5;have c6:Cz C d 2 (I y.tc):=(g.cell (p:=(U d 2)) u).trans a6;have c7:Cz C d 3 (I y.rest):=(g.cell (p:=(U d 3)) u).trans a7;have c8:Cz C (q+3) 0 (.func (.func 160) #[] #[(O q),(O (q+1))]):=(g.cell (p:=(U (q+3) 0)) ap).trans a8;have D:=J t g.size;have G:=J u g.size;have aq:=J ap g.size;have aU:=J aT g.size;have aY:=J aX g.size;have am:=ze ((ud al).trans (g.mono (ud al).size));clear g ae af)
   |(go_at_call 162;(with_reducible refine(ud (aw _)).mono ?_);rintro e V9 ⟨rfl,h9⟩;have an:=h9.symm;subst an)
   |(go_at_call 106;(with_reducible refine(ud (av _)).mono ?_);rintro e r ⟨rfl,o⟩;have i:Below C.1.size C r:=⟨o.os,o.tape,o.output,o.size,o.block⟩;clear o;have d0:Cz r n0 0 (jZz x):=(i.cell (p:=(U n0 0)) D).trans c0;have d1:Cz r n0 1 (I x.si):=(i.cell (p:=(U n0 1)) D).trans c1;have d2:Cz r n0 2 (I x.tc):=(i.cell (p:=(U n0 2)) D).trans c2;have d3:Cz r n0 3 (I x.rest):=(i.cell (p:=(U n0 3)) D).trans c3;have d4:Cz r d 0 (jZz y):=(i.cell (p:=(U d 0)) G).trans c4;have d5:Cz r d 1 (I y.si):=(i.cell (p:=(U d 1)) G).trans c5;have d6:Cz r d 2 (I y.tc):=(i.cell (p:=(U d 2)) G).trans c6;have d7:Cz r d 3 (I y.rest):=(i.cell (p:=(U d 3)) G).trans c7;have d8:Cz r (q+3) 0 (.func (.func 160) #[] #[(O q),(O (q+1))]):=(i.cell (p:=(U (q+3) 0)) aq).trans c8;have bf:=J D i.size;have bg:=J G i.size;have bh:=J aq i.size;have bi:=J aU i.size;have bj:=J aY i.size;have aH:=a9 r (r.alloc (.cells #[I R,I CP,I BK] 3)) (zo _ _);have aI:=a9 r (r.alloc (.cells #[I R,I CP,I BK] 3)).drew (zo _ _);have aJ:=a9 r (r.drew.alloc (.cells #[I R,I CP,I BK] 3)) (zo r.drew _);have aL:=ze ((ud am).trans (i.mono (ud am).size));clear i a9)
   |(go_at_call 163;(first|(with_reducible refine(ud aH).mono ?_)|(with_reducible refine(ud aI).mono ?_)|(with_reducible refine(ud aJ).mono ?_));rintro e V8 ⟨rfl,rfl⟩))
  go_wp2_with fail;go_ret;have h3:=ud aL;have zq9:Below n0 w X:=(by rw[<-aR];exact ud ai);exact⟨by rw[ud aK];rfl,by rw[aR];first|exact(zq9.trans ((h3.mono (ud z)).alloc (S (ud z) h3.size) _)).drew|exact zq9.trans ((h3.mono (ud z)).alloc (S (ud z) h3.size) _)|exact zq9.trans ((h3.mono (ud z)).drew.alloc (S (ud z) h3.size) _)⟩
 |true=>
  obtain⟨fx,mx,kx,ex⟩:=zby x;obtain⟨fy,my,ky,ey⟩:=zby y;have aF:=fun W=>ze (kx W);have aG:=fun W=>ze (ky W);have ax:jh y.kd x.kd=R:=ud HR;have aE:=fun W=>ze (vr y.kd x.kd W);simp only[ax]at aE;clear kx ky ax;go_enter func161,ntmps161;go_wp2_with fail;generalize hX:((w.alloc (.cells (tZz x) 177)).alloc (.cells (tZz y) 177))=X at*;have A:w.1.size<X.1.size:=by omega
  have B:w.1.size+1<X.1.size:=by omega
  have au:q+3<X.1.size:=by omega
  have aW:q<X.1.size:=by omega
  have b4:q+1<X.1.size:=by omega
  have z:Hid (w.1.size<=X.1.size):=by show _<=_;omega
  clear hX bz bb bc bd b5 tX;generalize w.1.size+1=d at*;generalize aR:w.1.size=n0 at*;rename_i Q1 K1 hK1;have b6:Hid (∀(u9 ay az aA aB aC aD:N) (V:Z),Below X.1.size X V->K1 {tmps:=#[.agg (tZz x),.agg (tZz y),(O (q+2)),(O (q+3)),(O n0),(O d),I 0,I R,.bool true,u9,ay,az,aA,aB,aC,aD,u_,u_,u_,u_,u_,u_,u_,u_,u_,u_,u_,u_,u_],defers:=[]} V):=by
   show∀(u9 ay az aA aB aC aD:N) (V:Z),Below X.1.size X V->K1 {tmps:=#[.agg (tZz x),.agg (tZz y),(O (q+2)),(O (q+3)),(O n0),(O d),I 0,I R,.bool true,u9,ay,az,aA,aB,aC,aD,u_,u_,u_,u_,u_,u_,u_,u_,u_,u_,u_,u_,u_],defers:=[]} V;intro u9 ay az aA aB aC aD V b9;apply hK1;have j:=ze b9;have v0:Cz V n0 0 (jZz x):=((ud j).cell (p:=(U n0 0)) A).trans x0;have v1:Cz V n0 1 (I x.si):=((ud j).cell (p:=(U n0 1)) A).trans x1;have v2:Cz V n0 2 (I x.tc):=((ud j).cell (p:=(U n0 2)) A).trans x2;have v3:Cz V n0 3 (I x.rest):=((ud j).cell (p:=(U n0 3)) A).trans x3;have v4:Cz V d 0 (jZz y):=((ud j).cell (p:=(U d 0)) B).trans x4;have v5:Cz V d 1 (I y.si):=((ud j).cell (p:=(U d 1)) B).trans x5;have v6:Cz V d 2 (I y.tc):=((ud j).cell (p:=(U d 2)) B).trans x6;have v7:Cz V d 3 (I y.rest):=((ud j).cell (p:=(U d 3)) B).trans x7;have v8:Cz V (q+3) 0 (.func (.func 160) #[] #[(O q),(O (q+1))]):=((ud j).cell (p:=(U (q+3) 0)) au).trans x8;have H:=J A (ud j).size;have L:=J B (ud j).size;have ar:=J au (ud j).size;have aV:=J aW (ud j).size;have aZ:=J b4 (ud j).size;clear b9 hK1 aF aG aE mx my ex ey x0 x1 x2 x3 x4 x5 x6 x7 x8;go_wp2_with fail;have ac:=ud ag V (ud j) (E _);have ad:=ud ag V.drew (ud j).drew (E _);go_region_held3 (fun w'=>w'.cell? (U n0 0)=Q (jZz x)/\w'.cell? (U n0 1)=Q (I x.si)/\w'.cell? (U n0 2)=Q (I x.tc)/\w'.cell? (U n0 3)=Q (I x.rest)/\w'.cell? (U d 0)=Q (jZz y)/\w'.cell? (U d 1)=Q (I y.si)/\w'.cell? (U d 2)=Q (I y.tc)/\w'.cell? (U d 3)=Q (I y.rest)/\w'.cell? (U (q+3) 0)=Q (.func (.func 160) #[] #[(O q),(O (q+1))])) (go_keep) (first
    |(go_at_call 160;(first|(with_reducible refine(ud ac).mono ?_)|(with_reducible refine(ud ad).mono ?_));rintro e s ⟨rfl,l⟩;have f:Below V.1.size V s:=⟨l.os,l.tape,l.output,l.size,l.block⟩;clear l;have a0:Cz s n0 0 (jZz x):=(f.cell (p:=(U n0 0)) H).trans v0;have a1:Cz s n0 1 (I x.si):=(f.cell (p:=(U n0 1)) H).trans v1;have a2:Cz s n0 2 (I x.tc):=(f.cell (p:=(U n0 2)) H).trans v2;have a3:Cz s n0 3 (I x.rest):=(f.cell (p:=(U n0 3)) H).trans v3;have a4:Cz s d 0 (jZz y):=(f.cell (p:=(U d 0)) L).trans v4;have a5:Cz s d 1 (I y.si):=(f.cell (p:=(U d 1)) L).trans v5;have a6:Cz s d 2 (I y.tc):=(f.cell (p:=(U d 2)) L).trans v6;have a7:Cz s d 3 (I y.rest):=(f.cell (p:=(U d 3)) L).trans v7;have a8:Cz s (q+3) 0 (.func (.func 160) #[] #[(O q),(O (q+1))]):=(f.cell (p:=(U (q+3) 0)) ar).trans v8;have t:=J H f.size;have u:=J L f.size;have ap:=J ar f.size;have aT:=J aV f.size;have aX:=J aZ f.size;have ae:=ud ah s ((ud j).trans (f.mono (ud j).size)) (E _);have af:=ud ah s.drew ((ud j).trans (f.mono (ud j).size)).drew (E _);have al:=ze ((ud j).trans (f.mono (ud j).size));clear f ac ad)
    |(go_at_call 160;(first|(with_reducible refine(ud ae).mono ?_)|(with_reducible refine(ud af).mono ?_));rintro e C ⟨rfl,m⟩;have g:Below s.1.size s C:=⟨m.os,m.tape,m.output,m.size,m.block⟩;clear m;have c0:Cz C n0 0 (jZz x):=(g.cell (p:=(U n0 0)) t).trans a0;have c1:Cz C n0 1 (I x.si):=(g.cell (p:=(U n0 1)) t).trans a1;have c2:Cz C n0 2 (I x.tc):=(g.cell (p:=(U n0 2)) t).trans a2;have c3:Cz C n0 3 (I x.rest):=(g.cell (p:=(U n0 3)) t).trans a3;have c4:Cz C d 0 (jZz y):=(g.cell (p:=(U d 0)) u).trans a4;have c5:Cz C d 1 (I y.si):=(g.cell (p:=(U d 1)) u).trans a5;have c6:Cz C d 2 (I y.tc):=(g.cell (p:=(U d 2)) u).trans a6;have c7:Cz C d 3 (I y.rest):=(g.cell (p:=(U d 3)) u).trans a7;have c8:Cz C (q+3) 0 (.func (.func 160) #[] #[(O q),(O (q+1))]):=(g.cell (p:=(U (q+3) 0)) ap).trans a8;have D:=J t g.size;have G:=J u g.size;have aq:=J ap g.size;have aU:=J aT g.size;have aY:=J aX g.size;have am:=ze ((ud al).trans (g.mono (ud al).size));clear g ae af)
    |(go_at_call 162;(with_reducible refine(ud (aw _)).mono ?_);rintro e V9 ⟨rfl,h9⟩;have an:=h9.symm;subst an)
    |(go_at_call 106;(with_reducible refine(ud (av _)).mono ?_);rintro e r ⟨rfl,o⟩;have i:Below C.1.size C r:=⟨o.os,o.tape,o.output,o.size,o.block⟩;clear o;have d0:Cz r n0 0 (jZz x):=(i.cell (p:=(U n0 0)) D).trans c0;have d1:Cz r n0 1 (I x.si):=(i.cell (p:=(U n0 1)) D).trans c1;have d2:Cz r n0 2 (I x.tc):=(i.cell (p:=(U n0 2)) D).trans c2;have d3:Cz r n0 3 (I x.rest):=(i.cell (p:=(U n0 3)) D).trans c3;have d4:Cz r d 0 (jZz y):=(i.cell (p:=(U d 0)) G).trans c4;have d5:Cz r d 1 (I y.si):=(i.cell (p:=(U d 1)) G).trans c5;have d6:Cz r d 2 (I y.tc):=(i.cell (p:=(U d 2)) G).trans c6;have d7:Cz r d 3 (I y.rest):=(i.cell (p:=(U d 3)) G).trans c7;have d8:Cz r (q+3) 0 (.func (.func 160) #[] #[(O q),(O (q+1))]):=(i.cell (p:=(U (q+3) 0)) aq).trans c8;have bf:=J D i.size;have bg:=J G i.size;have bh:=J aq i.size;have bi:=J aU i.size;have bj:=J aY i.size;have aH:=a9 r (r.alloc (.cells #[I R,I CP,I BK] 3)) (zo _ _);have aI:=a9 r (r.alloc (.cells #[I R,I CP,I BK] 3)).drew (zo _ _);have aJ:=a9 r (r.drew.alloc (.cells #[I R,I CP,I BK] 3)) (zo r.drew _);have aL:=ze ((ud am).trans (i.mono (ud am).size));clear i a9)
    |(go_at_call 163;(first|(with_reducible refine(ud aH).mono ?_)|(with_reducible refine(ud aI).mono ?_)|(with_reducible refine(ud aJ).mono ?_));rintro e V8 ⟨rfl,rfl⟩))
   go_wp2_with fail;go_ret;have h3:=ud aL;have zq9:Below n0 w X:=(by rw[<-aR];exact ud ai);exact⟨by rw[ud aK];rfl,by rw[aR];first|exact(zq9.trans ((h3.mono (ud z)).alloc (S (ud z) h3.size) _)).drew|exact zq9.trans ((h3.mono (ud z)).alloc (S (ud z) h3.size) _)|exact zq9.trans ((h3.mono (ud z)).drew.alloc (S (ud z) h3.size) _)⟩
  clear hK1 a9 av aw ag ah aK;go_region_held3 (fun w'=>w'.cell? (U n0 0)=Q (jZz x)/\w'.cell? (U d 0)=Q (jZz y)) (go_keep) (first
   |((with_reducible refine(ud (aG _)).mono ?_);rintro e Y1 ⟨rfl,P⟩;have aj:Below X.1.size X Y1:=⟨P.os,P.tape,P.output,P.size,P.block⟩;clear P;have a0:=(aj.cell (p:=(U n0 0)) A).trans x0;have a4:=(aj.cell (p:=(U d 0)) B).trans x4;have t:=J A aj.size;have u:=J B aj.size;have b7:=ze aj;clear aj aG)
   |((with_reducible refine(ud (aF _)).mono ?_);rintro e Y2 ⟨rfl,T⟩;have ak:Below Y1.1.size Y1 Y2:=⟨T.os,T.tape,T.output,T.size,T.block⟩;clear T;have c0:=(ak.cell (p:=(U n0 0)) t).trans a0;have c4:=(ak.cell (p:=(U d 0)) u).trans a4;have D:=J t ak.size;have G:=J u ak.size;have b8:=ze ((ud b7).trans (ak.mono (ud b7).size));clear ak aF)
   |(go_at_call 162;(with_reducible refine(ud (aE _)).mono ?_);rintro e V9 ⟨rfl,h9⟩;have an:=h9.symm;subst an))
  all_goals show K1 _ _
  all_goals first|exact ud b6 _ _ _ _ _ _ _ _ (ud b8)|exact ud b6 _ _ _ _ _ _ _ _ (ud b8).drew
theorem qR(x y:Tsk):yh x y<0↔(x.kd<y.kd\/x.kd=y.kd/\(x.s.t<y.s.t\/x.s.t=y.s.t/\(x.s.se<y.s.se\/x.s.se=y.s.se/\x.s.we<y.s.we))):=by
 unfold yh;simp only[orL,jh];repeat' split
 all_goals omega
theorem zhI{x y:Tsk}(a:¬yh x y<0)(b:¬yh y x<0):x.kd=y.kd/\x.s.t=y.s.t/\x.s.se=y.s.se/\x.s.we=y.s.we:=by
 rw[qR]at a b;omega
theorem zhJ:Go.Sort.SWO (fun x y:Tsk=>decide (yh x y<0)) where
 irrefl x:=by simp only[decide_eq_false_iff_not,qR];omega
 trans x y z h1 h2:=by simp only[decide_eq_true_eq,qR]at*;omega
 ntrans x y z h1 h2:=by simp only[decide_eq_false_iff_not,qR]at*;omega
theorem zgW{l e:List Tsk}(i:l.Perm e)(k:l.Pairwise (fun a b=>¬yh b a<0))(m:e.Pairwise (fun a b=>¬yh b a<0))(p:∀a∈l,∀b∈l,a.key=b.key->a=b):l=e:=
 i.eq_of_pairwise (fun a b n o c d=>p a n b (i.mem_iff.2 o) (by
  obtain⟨j,f,g,h⟩:=zhI d c;unfold Tsk.key;rw[j,show a.s=b.s from by
   obtain⟨_,⟨_,_,_⟩,_,_,_⟩:=a;obtain⟨_,⟨_,_,_⟩,_,_,_⟩:=b;simp only at f g h ⊢;rw[f,g,h]])) k m
