import Derived.Test.YtndhpgciopcncaaGreatDoorVStp1
import Derived.StillTactics
open Go.Value renaming int → I
open Go.IntKind renaming i64 → J
open Nat renaming le_trans → K
open Go.RowKit.Below renaming refl → O
open Go.IntKind (i32)
set_option linter.unusedVariables false
set_option maxRecDepth 20000
set_option maxHeartbeats 8000000
namespace Go.Proofs.YtndhpgciopcncaaGreatDoor
open Go.RowKit Go.Maps Go.Shelf
theorem zbF{w:World}{B p:Nat}{c:Cf}{ep:Int}{m:MS}{ns:List Nm}{j k:Nat}(hs:Yh w B p c ep m ns j k)(x:c.ok)(hf:c.fits)(aS:xg ep)(kd a b v:Int)(i:Nat)(f:i<k)(r:Int)(be:(k:Int)-1-r=i)(r0:0<=r/\r<k)(PK:∀W:World,Calls Tryz.prog 31 #[I J a,I J k] W fun e w'=>e=.returned (I J r)/\w'=W)(hj:j<=4398046511104)(aC:¬kd=5){g9:Lse}(C:zY m.QL ⟨ep,(i:Int)+1⟩=some g9)(d:Sg)(af ag ae:Int)(U:zY m.TL g9.job=some ⟨true,d,af,ag,ae⟩)(aZ:g9.job.wf)(aA:inR c d)(V:Nat)(aB:d.t=V):
  Calls Tryz.prog 41 #[.pointer (some ⟨p,0,none⟩),.agg #[I J kd,I J a,I J b,I i32 v]] w fun e w'=>e=.returned (.bool true)/\jJ w w' B p c ep m ns j:=by
 have G:=hs.size
 obtain⟨⟨sp,si,sd,bi,bk,bj,bl⟩,rfl,h,hk,ho,aU,aV⟩:=hs
 dsimp only at*
 obtain⟨r0,r1⟩:=r0
 have bf:B<=sp:=h.lo
 have aW:=ho.ok.seg.u0 x
 have b4:=ho.ok.seg.len400 x
 have a6:Below w.1.size w (w.alloc (.cells #[I J kd,I J a,I J b,I i32 v] 33)):=(O _ _).alloc (Nat.le_refl _) _
 have q0:=zk w (.cells #[I J kd,I J a,I J b,I i32 v] 33)
 have s:=h.later a6
 obtain⟨g,gc,a9,aT,a7,a8⟩:=qK s.krow (j:=i) (by rw[zF];exact f)
 obtain⟨o,aO,D,az,ac,aX⟩:=jn s.urow (j:=i) (by rw[zV];exact f)
 rw[zF]at a9
 rw[zV]at D
 dsimp only at a9 D
 subst a9
 subst D
 have A:(vW ep k)[i]'(by rw[zF];exact f)=⟨ep,(i:Int)+1⟩:=(List.getElem?_eq_some_iff.1 (ko ep k i f)).2
 have ax:(qV ep m.QL k)[i]'(by rw[zV];exact f)=vu m.QL ⟨ep,(i:Int)+1⟩:=(List.getElem?_eq_some_iff.1 (kM ep m.QL k i f)).2
 rw[A]at a7 a8
 rw[ax]at ac
 dsimp only at a7 a8
 have F:=(s.setUnt (g:=o) (cap:=aO) (by rw[zV]) i 0).later (O _ _).drew
 obtain⟨x0,-,-,-,-,-,-,-,aH,aI⟩:=s.cells
 dsimp only at x0 aH aI
 have xl:=s.lt
 dsimp only at xl
 obtain⟨o0,o1,-⟩:=zc q0
 have ol:=za q0
 have aE:¬o=sp:=zu s.head s.urow (by decide) o rfl
 have b5:¬sp=o:=fun e=>aE e.symm
 have aF:¬o=g:=fun e=>xo s.urow s.krow (by decide) o rfl (by simp[Value.ownBlock,e])
 have b6:¬g=o:=fun e=>aF e.symm
 have bd:w.1.size<(w.alloc (.cells #[I J kd,I J a,I J b,I i32 v] 33)).1.size:=ol
 have aG:¬o=w.1.size:=fun e=>by have:=h.foot_lt o (.inr (.inr (.inr (.inr rfl))));omega
 have a4:¬w.1.size=o:=fun e=>aG e.symm
 have e1:IntKind.i64.wrap ((k:Int)-1)=(k:Int)-1:=by rw[IntKind.wrap_i64];omega
 have e2:IntKind.i64.wrap ((k:Int)-1-r)=i:=by rw[IntKind.wrap_i64];omega
 have b3:(i:Int)<k:=by omega
 have ba:((k:Int)==0)=false:=by simp;omega
 have a1:=zd (xI F.mill x ⟨aW.1,by omega⟩ (by omega))
 have a0:=zd F
 have Q0:=zd q0
 have ay:Bel B w (w.alloc (.cells #[I J kd,I J a,I J b,I i32 v] 33)):=Bel.of a6 G
 have aJ:=zd ay
 have HX:=zd s
 have aL:=fun W=>zd (PK W)
 have HO:=zd ho
 have b1:B<=o:=(s.urow.lt o rfl).1
 clear h s a6 q0 F A ax ay ho PK
 have bb:(kd==5)=false:=by simp[aC]
 have a5:=(ud HO).ok.unt_pos C
 have aY:0<vu m.QL ⟨ep,(i:Int)+1⟩:=by rw[a5.1];exact a5.2
 generalize b8:vu m.QL ⟨ep,(i:Int)+1⟩=u at ac aY
 have b9:(ze m.L 2==ze m.L 2-1)=false:=by simp;omega
 have b0:¬ze m.L 2=ze m.L 2-1:=by omega
 clear aC
 go_enter Tryz.func41,Tryz.ntmps41
 go_wp2_with fail
 generalize(w.alloc (.cells #[I J kd,I J a,I J b,I i32 v] 33))=X at*
 refine wp_region_still_lit (by kernel_rfl) (by kernel_rfl) ?_
 repeat still_step
 still_call (ud (aL _))
 repeat still_step
 refine wpStill_nil ?_
 go_wp2_with fail
 refine(ud a1).mono ?_
 rintro e N ⟨rfl,T⟩
 have M:=zd T
 have bh:w.1.size<N.1.size:=Nat.lt_of_lt_of_le ol (K (Nat.le_of_eq (Z4 X o i (I J 0)).symm) T.size)
 have p0:=(T.cell (p:=⟨w.1.size,0,none⟩) (by rw[Z4];exact ol)).trans ((Xu (i:=i) (v:=I J 0) a4).trans o0)
 clear T a1
 go_wp2_with fail
 have q:=((ud a0).later (ud M)).later ((O N.1.size N).alloc (Nat.le_refl _) (.cells #[I J m.now,I J (zm m.L),I J (zU (zO (zm m.L) c.qu)),I J ep,I J (ze m.L 1),I J (ze m.L 2),I J (ze m.L 3),I J m.Gl.length] 37))
 have au:Bel B w (N.alloc (.cells #[I J m.now,I J (zm m.L),I J (zU (zO (zm m.L) c.qu)),I J ep,I J (ze m.L 1),I J (ze m.L 2),I J (ze m.L 3),I J m.Gl.length] 37)):=by
  have k1:=(Bel.unt (i:=i) (ud HX).urow (I J 0)).drew
  have k2:=(ud aJ).trans k1
  have k3:=k2.trans (Bel.of (ud M) (K G k2.size))
  exact k3.alloc (K G k3.size) _
 have aw:=zk N (.cells #[I J m.now,I J (zm m.L),I J (zU (zO (zm m.L) c.qu)),I J ep,I J (ze m.L 1),I J (ze m.L 2),I J (ze m.L 3),I J m.Gl.length] 37)
 have Q:N.1[w.1.size]?=some (.cells #[I J kd,I J a,I J b,I i32 v] 33 (0,0)):=((ud M).block _ (by rw[Z4];exact ol)).trans ((ZG a4).trans (ud Q0))
 have av:=(Below.heap_alloc _ (.cells #[I J m.now,I J (zm m.L),I J (zU (zO (zm m.L) c.qu)),I J ep,I J (ze m.L 1),I J (ze m.L 2),I J (ze m.L 3),I J m.Gl.length] 37) _ (za Q)).trans Q
 have bc:¬w.1.size=N.1.size:=by have:=za Q;omega
 clear o0 o1 p0 x0 aH aI a7 a8 ac aX aT az xl Q M a0
 generalize(N.alloc (.cells #[I J m.now,I J (zm m.L),I J (zU (zO (zm m.L) c.qu)),I J ep,I J (ze m.L 1),I J (ze m.L 2),I J (ze m.L 3),I J m.Gl.length] 37))=Z at*
 generalize bg:N.1.size=wb at*
 obtain⟨z0,-,-,-,-,-,-,-,z11,-⟩:=q.cells
 dsimp only at z0 z11
 obtain⟨gz,b7,aa,b2,t0,t1⟩:=qK q.krow (j:=i) (by rw[zF];exact f)
 rw[zF]at aa
 dsimp only at aa
 cases aa
 have A:(vW ep k)[i]'(by rw[zF];exact f)=⟨ep,(i:Int)+1⟩:=(List.getElem?_eq_some_iff.1 (ko ep k i f)).2
 rw[A]at t0 t1
 dsimp only at t0 t1
 have zl:=q.lt
 dsimp only at zl
 have n:=zd q
 have al:=zd au
 have an:=zd aw
 have am:=zd av
 have ao:=(q.later (O _ _).drew).mill
 obtain⟨R,S,ap,aq⟩:=(ud HO).ok.rolled C U rfl (xz (xp c m.L d.sr d.wa V))
 dsimp only at R S ap aq
 have aR:zm (ya m.L d ⟨3,xz (xp c m.L d.sr d.wa V)⟩)=zm m.L:=by
  have:=S qD
  have e1:qD (stL m.L d)=2:=by unfold qD;rw[if_neg (by omega)]
  have e2:qD ⟨3,xz (xp c m.L d.sr d.wa V)⟩=2:=by simp[qD]
  rw[e1,e2]at this
  unfold zm;omega
 have aP:ze (ya m.L d ⟨3,xz (xp c m.L d.sr d.wa V)⟩) 1=ze m.L 1:=by
  have:=S (QN 1)
  have e1:QN 1 (stL m.L d)=0:=by unfold QN;rw[if_neg (by omega)]
  have e2:QN 1 ⟨3,xz (xp c m.L d.sr d.wa V)⟩=0:=by simp[QN]
  rw[e1,e2]at this
  unfold ze;omega
 have a2:=R.seg.inr
 have a3:=R.seg.len400 x
 have HC:=zd (XC ao x ⟨ep,(i:Int)+1⟩ ⟨aS,by unfold xg;dsimp only;omega⟩ C aZ d af ag ae U aA V aB (by omega) (by have:=(ud HO).gl x;omega) a2 (K a3 (by decide)) (ud HO).ok.now (by have:=(ud HO).ok.t800 x;omega))
 clear ao q au aw av A a2 a3 R S ap aq
 refine xh 11 (by kernel_rfl) (by kernel_rfl) ?_
 simp only[List.take_succ_cons,List.take_zero,List.drop_succ_cons,List.drop_zero]
 repeat still_step
 refine wpStill_nil ?_
 go_wp2_with(first
  |(go_at_call 20;refine(ud HC).mono ?_;rintro e V2 ⟨rfl,aN,hM,hK,hP⟩;have E:Kx si Z V2:=((ud n).mill.below (O _ _).drew).trans hK;have z:=(ud n).putMill hM E;have s0:=(z.cells).1;dsimp only at s0;have sl:=z.lt;dsimp only at sl;have ak:=zd (E.kept.heap (ud an) ((ud n).mill.tag (ud an) (by decide)));have aj:=zd (E.kept.heap (ud am) ((ud n).mill.tag (ud am) (by decide)));have Y:=zd (yn.rolled (c:=c) (ep:=ep) m ns _ g9 d af ag ae V aN C U aB hP);have P:=(ud Y).ok x hf (ud HO);have aQ:=((ud HO).roll x hf C U _ hP).2;clear hP;have ad:=(P.ok.seg.u0 x);have aD:=(P.ok.seg.len400 x);have y:=zd (xI z.mill x ⟨ad.1,Int.le_trans ad.2 (by decide)⟩ (K aD (by decide)));dsimp only at y;rw[aR,aP,aQ]at y;have aM:=zd z;have ah:=zd ((ud al).trans (Bel.mill (ud n).mill E (K G (ud al).size) (ud n).mlo));have aK:=zd P;clear hM hK E z P ad aD)
  |(go_at_call 15;refine(ud y).mono ?_;rintro e V3 ⟨rfl,l⟩;have H:=(l.block _ (za (ud ak))).trans (ud ak);have ab:=(l.block _ (za (ud aj))).trans (ud aj);obtain⟨w0,w1,-⟩:=zc H;have w2:V3.cell? ⟨wb,2,none⟩=some (I J (zU (zO (zm m.L) c.qu))):=(by rw[xD H];rfl);obtain⟨-,-,-,w3,w4,w5,w6,w7,-⟩:=zc H;have wl:=za H;obtain⟨p0,-⟩:=zc ab;have pl:=za ab;have ai:=zd l;clear l H ab))
 go_ret
 have l:=(ud ai).alloc (ud ai).size (.cells #[I J m.now,I J (zm m.L),I J (zU (zO (zm m.L) c.qu)),I J ep,I J (ze m.L 1),I J (ze m.L 2-1),I J (ze (ya m.L d ⟨3,xz (xp c m.L d.sr d.wa V)⟩) 3),I J m.Gl.length] 37)
 have ar:=(ud aM).later l
 have e0:qV ep (xq m.QL ⟨ep,(i:Int)+1⟩) k=(qV ep m.QL k).set i 0:=Kc (ud HO).ok.nq k i
 rw[<-e0]at ar
 exact⟨rfl,_,ud Y,⟨_,k,rfl,ar,hk,ud aK,aU,aV⟩,(ud ah).trans (Bel.of l (K G (ud ah).size))⟩
end Go.Proofs.YtndhpgciopcncaaGreatDoor
