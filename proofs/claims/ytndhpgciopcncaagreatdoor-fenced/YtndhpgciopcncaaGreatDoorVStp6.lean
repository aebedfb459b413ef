import Derived.Test.YtndhpgciopcncaaGreatDoorVStp1
import Derived.StillTactics
open Go.Value renaming int → I
open Go.IntKind renaming i64 → J
open Nat renaming le_trans → K
open Go.RowKit.Below renaming refl → O
open Go.IntKind (i32)
set_option linter.unusedVariables false
set_option maxRecDepth 20000
set_option maxHeartbeats 8000000
namespace Go.Proofs.YtndhpgciopcncaaGreatDoor
open Go.RowKit Go.Maps Go.Shelf
theorem zbE{w:World}{B p:Nat}{c:Cf}{ep:Int}{m:MS}{ns:List Nm}{j k:Nat}(hs:Yh w B p c ep m ns j k)(y:c.ok)(hf:c.fits)(aP:xg ep)(kd a b v:Int)(i:Nat)(d:i<k)(r:Int)(ba:(k:Int)-1-r=i)(r0:0<=r/\r<k)(PK:∀W:World,Calls Tryz.prog 31 #[I J a,I J k] W fun e w'=>e=.returned (I J r)/\w'=W)(hj:j<=4398046511104)(aB:¬kd=5){g9:Lse}(Q:zY m.QL ⟨ep,(i:Int)+1⟩=some g9)(s:Sg)(af ag ae:Int)(ad:zY m.TL g9.job=some ⟨false,s,af,ag,ae⟩)(aW:g9.job.wf)(aA:inR c s):
  Calls Tryz.prog 41 #[.pointer (some ⟨p,0,none⟩),.agg #[I J kd,I J a,I J b,I i32 v]] w fun e w'=>e=.returned (.bool true)/\jJ w w' B p c ep m ns j:=by
 have D:=hs.size
 obtain⟨⟨sp,si,sd,be,bg,bf,bh⟩,rfl,h,hk,ho,aR,aS⟩:=hs
 dsimp only at*
 obtain⟨r0,r1⟩:=r0
 have bb:B<=sp:=h.lo
 have aT:=ho.ok.seg.u0 y
 have b0:=ho.ok.seg.len400 y
 have a5:Below w.1.size w (w.alloc (.cells #[I J kd,I J a,I J b,I i32 v] 33)):=(O _ _).alloc (Nat.le_refl _) _
 have q0:=zk w (.cells #[I J kd,I J a,I J b,I i32 v] 33)
 have q:=h.later a5
 obtain⟨g,gc,a8,aQ,a6,a7⟩:=qK q.krow (j:=i) (by rw[zF];exact d)
 obtain⟨n,aN,z,az,ab,aU⟩:=jn q.urow (j:=i) (by rw[zV];exact d)
 rw[zF]at a8
 rw[zV]at z
 dsimp only at a8 z
 subst a8
 subst z
 have x:(vW ep k)[i]'(by rw[zF];exact d)=⟨ep,(i:Int)+1⟩:=(List.getElem?_eq_some_iff.1 (ko ep k i d)).2
 have ax:(qV ep m.QL k)[i]'(by rw[zV];exact d)=vu m.QL ⟨ep,(i:Int)+1⟩:=(List.getElem?_eq_some_iff.1 (kM ep m.QL k i d)).2
 rw[x]at a6 a7
 rw[ax]at ab
 dsimp only at a6 a7
 have C:=(q.setUnt (g:=n) (cap:=aN) (by rw[zV]) i 0).later (O _ _).drew
 obtain⟨x0,-,-,-,-,-,-,-,aG,aH⟩:=q.cells
 dsimp only at x0 aG aH
 have xl:=q.lt
 dsimp only at xl
 obtain⟨o0,o1,-⟩:=zc q0
 have ol:=za q0
 have aD:¬n=sp:=zu q.head q.urow (by decide) n rfl
 have b1:¬sp=n:=fun e=>aD e.symm
 have aE:¬n=g:=fun e=>xo q.urow q.krow (by decide) n rfl (by simp[Value.ownBlock,e])
 have b2:¬g=n:=fun e=>aE e.symm
 have b9:w.1.size<(w.alloc (.cells #[I J kd,I J a,I J b,I i32 v] 33)).1.size:=ol
 have aF:¬n=w.1.size:=fun e=>by have:=h.foot_lt n (.inr (.inr (.inr (.inr rfl))));omega
 have a1:¬w.1.size=n:=fun e=>aF e.symm
 have e1:IntKind.i64.wrap ((k:Int)-1)=(k:Int)-1:=by rw[IntKind.wrap_i64];omega
 have e2:IntKind.i64.wrap ((k:Int)-1-r)=i:=by rw[IntKind.wrap_i64];omega
 have aZ:(i:Int)<k:=by omega
 have b6:((k:Int)==0)=false:=by simp;omega
 have U:=zd (xI C.mill y ⟨aT.1,by omega⟩ (by omega))
 have T:=zd C
 have Q0:=zd q0
 have ay:Bel B w (w.alloc (.cells #[I J kd,I J a,I J b,I i32 v] 33)):=Bel.of a5 D
 have aI:=zd ay
 have HX:=zd q
 have aK:=fun W=>zd (PK W)
 have S:=zd ho
 have aX:B<=n:=(q.urow.lt n rfl).1
 clear h q a5 q0 C x ax ay ho PK
 have b7:(kd==5)=false:=by simp[aB]
 have a2:=(ud S).ok.unt_pos Q
 have aV:0<vu m.QL ⟨ep,(i:Int)+1⟩:=by rw[a2.1];exact a2.2
 generalize b5:vu m.QL ⟨ep,(i:Int)+1⟩=u at ab aV
 clear aB
 go_enter Tryz.func41,Tryz.ntmps41
 go_wp2_with fail
 generalize(w.alloc (.cells #[I J kd,I J a,I J b,I i32 v] 33))=X at*
 refine wp_region_still_lit (by kernel_rfl) (by kernel_rfl) ?_
 repeat still_step
 still_call (ud (aK _))
 repeat still_step
 refine wpStill_nil ?_
 go_wp2_with fail
 refine(ud U).mono ?_
 rintro e G ⟨rfl,P⟩
 have F:=zd P
 have bd:w.1.size<G.1.size:=Nat.lt_of_lt_of_le ol (K (Nat.le_of_eq (Z4 X n i (I J 0)).symm) P.size)
 have p0:=(P.cell (p:=⟨w.1.size,0,none⟩) (by rw[Z4];exact ol)).trans ((Xu (i:=i) (v:=I J 0) a1).trans o0)
 clear P U
 go_wp2_with fail
 have o:=((ud T).later (ud F)).later ((O G.1.size G).alloc (Nat.le_refl _) (.cells #[I J m.now,I J (zm m.L),I J (zU (zO (zm m.L) c.qu)),I J ep,I J (ze m.L 1),I J (ze m.L 2),I J (ze m.L 3),I J m.Gl.length] 37))
 have au:Bel B w (G.alloc (.cells #[I J m.now,I J (zm m.L),I J (zU (zO (zm m.L) c.qu)),I J ep,I J (ze m.L 1),I J (ze m.L 2),I J (ze m.L 3),I J m.Gl.length] 37)):=by
  have k1:=(Bel.unt (i:=i) (ud HX).urow (I J 0)).drew
  have k2:=(ud aI).trans k1
  have k3:=k2.trans (Bel.of (ud F) (K D k2.size))
  exact k3.alloc (K D k3.size) _
 have aw:=zk G (.cells #[I J m.now,I J (zm m.L),I J (zU (zO (zm m.L) c.qu)),I J ep,I J (ze m.L 1),I J (ze m.L 2),I J (ze m.L 3),I J m.Gl.length] 37)
 have M:G.1[w.1.size]?=some (.cells #[I J kd,I J a,I J b,I i32 v] 33 (0,0)):=((ud F).block _ (by rw[Z4];exact ol)).trans ((ZG a1).trans (ud Q0))
 have av:=(Below.heap_alloc _ (.cells #[I J m.now,I J (zm m.L),I J (zU (zO (zm m.L) c.qu)),I J ep,I J (ze m.L 1),I J (ze m.L 2),I J (ze m.L 3),I J m.Gl.length] 37) _ (za M)).trans M
 have b8:¬w.1.size=G.1.size:=by have:=za M;omega
 clear o0 o1 p0 x0 aG aH a6 a7 ab aU aQ az xl M F T
 generalize(G.alloc (.cells #[I J m.now,I J (zm m.L),I J (zU (zO (zm m.L) c.qu)),I J ep,I J (ze m.L 1),I J (ze m.L 2),I J (ze m.L 3),I J m.Gl.length] 37))=Z at*
 generalize bc:G.1.size=wb at*
 obtain⟨z0,-,-,-,-,-,-,-,z11,-⟩:=o.cells
 dsimp only at z0 z11
 obtain⟨gz,b3,a9,aY,t0,t1⟩:=qK o.krow (j:=i) (by rw[zF];exact d)
 rw[zF]at a9
 dsimp only at a9
 cases a9
 have x:(vW ep k)[i]'(by rw[zF];exact d)=⟨ep,(i:Int)+1⟩:=(List.getElem?_eq_some_iff.1 (ko ep k i d)).2
 rw[x]at t0 t1
 dsimp only at t0 t1
 have zl:=o.lt
 dsimp only at zl
 have l:=zd o
 have al:=zd au
 have an:=zd aw
 have am:=zd av
 have ao:=(o.later (O _ _).drew).mill
 obtain⟨N,a4,ap,a3,aq⟩:=(ud S).ok.reclaimed Q ad rfl
 dsimp only at N a4 ap a3 aq
 have aO:¬zm m.L=zm (xq m.L s):=by
  have:=a4 qD
  have e1:=(ud S).ok.seg.use _ (xS a3)
  dsimp only at e1
  unfold zm;omega
 have b4:(zm m.L==zm (xq m.L s))=false:=by simpa using aO
 have Y:=N.seg.inr
 have a0:=N.seg.len400 y
 have HC:=zd (jz ao y ⟨ep,(i:Int)+1⟩ ⟨aP,by unfold xg;dsimp only;omega⟩ Q aW s af ag ae ad aA (by omega) (by have:=(ud S).gl y;omega) Y (K a0 (by decide)) (ud S).ok.now (by have:=(ud S).ok.t800 y;omega))
 clear ao o au aw av x Y a0 N a4 ap a3 aq
 refine xh 11 (by kernel_rfl) (by kernel_rfl) ?_
 simp only[List.take_succ_cons,List.take_zero,List.drop_succ_cons,List.drop_zero]
 repeat still_step
 refine wpStill_nil ?_
 go_wp2_with(first
  |(go_at_call 20;refine(ud HC).mono ?_;rintro e V2 ⟨rfl,aM,hM,hK,hP⟩;have A:Kx si Z V2:=((ud l).mill.below (O _ _).drew).trans hK;have t:=(ud l).putMill hM A;have s0:=(t.cells).1;dsimp only at s0;have sl:=t.lt;dsimp only at sl;have ak:=zd (A.kept.heap (ud an) ((ud l).mill.tag (ud an) (by decide)));have aj:=zd (A.kept.heap (ud am) ((ud l).mill.tag (ud am) (by decide)));have R:=zd (yn.reclaimed (c:=c) (ep:=ep) m ns _ g9 s af ag ae aM Q ad hP);have H:=(ud R).ok y hf (ud S);clear hP;have ac:=(H.ok.seg.u0 y);have aC:=(H.ok.seg.len400 y);have V:=zd (xI t.mill y ⟨ac.1,Int.le_trans ac.2 (by decide)⟩ (K aC (by decide)));dsimp only at V;have aL:=zd t;have ah:=zd ((ud al).trans (Bel.mill (ud l).mill A (K D (ud al).size) (ud l).mlo));have aJ:=zd H;clear hM hK A t H ac aC)
  |(go_at_call 15;refine(ud V).mono ?_;rintro e V3 ⟨rfl,f⟩;have E:=(f.block _ (za (ud ak))).trans (ud ak);have aa:=(f.block _ (za (ud aj))).trans (ud aj);obtain⟨w0,w1,-⟩:=zc E;have w2:V3.cell? ⟨wb,2,none⟩=some (I J (zU (zO (zm m.L) c.qu))):=(by rw[xD E];rfl);obtain⟨-,-,-,w3,w4,w5,w6,w7,-⟩:=zc E;have wl:=za E;obtain⟨p0,-⟩:=zc aa;have pl:=za aa;have ai:=zd f;clear f E aa))
 go_ret
 have f:=(ud ai).alloc (ud ai).size (.cells #[I J m.now,I J (zm (xq m.L s)),I J (zU (zO (zm (xq m.L s)) c.qu)),I J ep,I J (ze (xq m.L s) 1),I J (ze (xq m.L s) 2),I J (ze (xq m.L s) 3),I J (qr m.Gl s ()).length] 37)
 have ar:=(ud aL).later f
 have e0:qV ep (xq m.QL ⟨ep,(i:Int)+1⟩) k=(qV ep m.QL k).set i 0:=Kc (ud S).ok.nq k i
 rw[<-e0]at ar
 exact⟨rfl,_,ud R,⟨_,k,rfl,ar,hk,ud aJ,aR,aS⟩,(ud ah).trans (Bel.of f (K D (ud ah).size))⟩
end Go.Proofs.YtndhpgciopcncaaGreatDoor
