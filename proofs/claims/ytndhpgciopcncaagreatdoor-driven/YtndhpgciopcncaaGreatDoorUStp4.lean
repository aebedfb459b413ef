import Derived.Test.YtndhpgciopcncaaGreatDoorUStp2
import Derived.StillTactics
import Derived.Test.YtndhpgciopcncaaGreatDoorURcl0
import Derived.Test.YtndhpgciopcncaaGreatDoorUCfg1
open Go.Value renaming int → I
open Go.IntKind renaming i64 → J
open Go.RowKit.Below renaming refl → O
open Nat renaming le_trans → E
open Nat renaming le_refl → Q
open Option renaming none → Y
open Option renaming some → N
open Go.IntKind renaming i32 → S
open Go renaming World → A
open Go.RowKit renaming Below → D
open Nat renaming lt_of_lt_of_le → P
set_option linter.unusedVariables false
set_option maxRecDepth 20000
set_option maxHeartbeats 8000000
open Go.Proofs.Tryz
namespace Go.Proofs.YtndhpgciopcncaaGreatDoor
open Go.RowKit Go.Maps Go.Shelf
theorem zbs{w:A}{B p:Nat}{c:Cf}{ep:Int}{m:MS}{ns:List Nm}{j k:Nat}(hs:Y6 w B p c ep m ns j k)(hc:c.ok)(hf:c.fits)(aI:xh ep)(kd a b v:Int)(i:Nat)(d:i<k)(r:Int)(b3:(k:Int)-1-r=i)(r0:0<=r/\r<k)(PK:∀W:A,Calls prog 31 #[I J a,I J k] W fun e w'=>e=.returned (I J r)/\w'=W)(hj:j<=4398046511104)(ar:kd=5){g9:Lse}(a6:zQ m.QL ⟨ep,(i:Int)+1⟩=N g9){x9:Tsk}(aA:zQ m.TL g9.job=N x9)(az:g9.job.wf)(ay:0<=x9.ti/\x9.ti<=1000000):
  Calls prog 41 #[.pointer (N ⟨p,0,Y⟩),.agg #[I J kd,I J a,I J b,I S v]] w fun e w'=>e=.returned (.bool true)/\jD w w' B p c ep m ns j:=by
 have C:=hs.size
 obtain⟨⟨sp,si,sd,b7,b9,b8,ba⟩,rfl,h,hk,ho,aK,aL⟩:=hs
 dsimp only at*
 obtain⟨r0,r1⟩:=r0
 have b4:B<=sp:=h.lo
 have aM:=ho.ok.seg.u0 hc
 have aS:=ho.ok.seg.len400 hc
 have a3:D w.1.size w (w.alloc (.cells #[I J kd,I J a,I J b,I S v] 33)):=(O _ _).alloc (Q _) _
 have q0:=zm w (.cells #[I J kd,I J a,I J b,I S v] 33)
 have q:=h.later a3
 obtain⟨g,gc,a7,aJ,a4,a5⟩:=yb q.krow (j:=i) (by rw[zH];exact d)
 obtain⟨n,aH,x,aq,aa,aN⟩:=vs q.urow (j:=i) (by rw[zP];exact d)
 rw[zH]at a7
 rw[zP]at x
 dsimp only at a7 x
 subst a7
 subst x
 have t:(vB ep k)[i]'(by rw[zH];exact d)=⟨ep,(i:Int)+1⟩:=(List.getElem?_eq_some_iff.1 (ko ep k i d)).2
 have ao:(qt ep m.QL k)[i]'(by rw[zP];exact d)=kK m.QL ⟨ep,(i:Int)+1⟩:=(List.getElem?_eq_some_iff.1 (yE ep m.QL k i d)).2
 rw[t]at a4 a5
 rw[ao]at aa
 dsimp only at a4 a5
 have z:=(q.setUnt (g:=n) (cap:=aH) (by rw[zP]) i 0).later (O _ _).drew
 obtain⟨x0,-,-,-,-,-,-,-,aB,aC⟩:=q.cells
 dsimp only at x0 aB aC
 have xl:=q.lt
 dsimp only at xl
 obtain⟨o0,o1,-⟩:=zc q0
 have ol:=za q0
 have av:¬n=sp:=zu q.head q.urow (by decide) n rfl
 have aT:¬sp=n:=fun e=>av e.symm
 have aw:¬n=g:=fun e=>xr q.urow q.krow (by decide) n rfl (by simp[Value.ownBlock,e])
 have aU:¬g=n:=fun e=>aw e.symm
 have b2:w.1.size<(w.alloc (.cells #[I J kd,I J a,I J b,I S v] 33)).1.size:=ol
 have ax:¬n=w.1.size:=fun e=>by have:=h.foot_lt n (.inr (.inr (.inr (.inr rfl))));omega
 have a1:¬w.1.size=n:=fun e=>ax e.symm
 have e1:IntKind.i64.wrap ((k:Int)-1)=(k:Int)-1:=by rw[IntKind.wrap_i64];omega
 have e2:IntKind.i64.wrap ((k:Int)-1-r)=i:=by rw[IntKind.wrap_i64];omega
 have aR:(i:Int)<k:=by omega
 have aZ:((k:Int)==0)=false:=by simp;omega
 have V:=zd (qa z.mill hc ⟨aM.1,by omega⟩ (by omega))
 have U:=zd z
 have Q0:=zd q0
 have ap:Bel B w (w.alloc (.cells #[I J kd,I J a,I J b,I S v] 33)):=Bel.of a3 C
 have aD:=zd ap
 have HX:=zd q
 have aF:=fun W=>zd (PK W)
 have HO:=zd ho
 have aP:B<=n:=(q.urow.lt n rfl).1
 clear h q a3 q0 z t ao ap ho PK
 have b0:(kd==5)=true:=by simp[ar]
 have a2:=(ud HO).ok.unt_pos a6
 have aO:0<kK m.QL ⟨ep,(i:Int)+1⟩:=by rw[a2.1];exact a2.2
 generalize aY:kK m.QL ⟨ep,(i:Int)+1⟩=u at aa aO
 have aW:=zd az
 have aV:=zd ay
 clear ar
 go_enter func41,ntmps41
 go_wp2_with fail
 generalize(w.alloc (.cells #[I J kd,I J a,I J b,I S v] 33))=X at*
 refine wp_region_still_lit (by kernel_rfl) (by kernel_rfl) ?_
 repeat still_step
 still_call (ud (aF _))
 repeat still_step
 refine wpStill_nil ?_
 go_wp2_with fail
 refine(ud V).mono ?_
 rintro e H ⟨rfl,R⟩
 have G:=zd R
 have b6:w.1.size<H.1.size:=P ol (E (Nat.le_of_eq (jU X n i (I J 0)).symm) R.size)
 have p0:=(R.cell (p:=⟨w.1.size,0,Y⟩) (by rw[jU];exact ol)).trans ((Xl (i:=i) (v:=I J 0) a1).trans o0)
 clear R V
 go_wp2_with fail
 have o:=((ud U).later (ud G)).later ((O H.1.size H).alloc (Q _) (.cells #[I J m.now,I J (zp m.L),I J (xv (xa (zp m.L) c.qu)),I J ep,I J (zg m.L 1),I J (zg m.L 2),I J (zg m.L 3),I J m.Gl.length] 37))
 have al:Bel B w (H.alloc (.cells #[I J m.now,I J (zp m.L),I J (xv (xa (zp m.L) c.qu)),I J ep,I J (zg m.L 1),I J (zg m.L 2),I J (zg m.L 3),I J m.Gl.length] 37)):=by
  have k1:=(Bel.unt (i:=i) (ud HX).urow (I J 0)).drew
  have k2:=(ud aD).trans k1
  have k3:=k2.trans (Bel.of (ud G) (E C k2.size))
  exact k3.alloc (E C k3.size) _
 have an:=zm H (.cells #[I J m.now,I J (zp m.L),I J (xv (xa (zp m.L) c.qu)),I J ep,I J (zg m.L 1),I J (zg m.L 2),I J (zg m.L 3),I J m.Gl.length] 37)
 have M:H.1[w.1.size]?=N (.cells #[I J kd,I J a,I J b,I S v] 33 (0,0)):=((ud G).block _ (by rw[jU];exact ol)).trans ((Zr a1).trans (ud Q0))
 have am:=(Below.heap_alloc _ (.cells #[I J m.now,I J (zp m.L),I J (xv (xa (zp m.L) c.qu)),I J ep,I J (zg m.L 1),I J (zg m.L 2),I J (zg m.L 3),I J m.Gl.length] 37) _ (za M)).trans M
 have b1:¬w.1.size=H.1.size:=by have:=za M;omega
 clear o0 o1 p0 x0 aB aC a4 a5 aa aN aJ aq xl M G U
 generalize(H.alloc (.cells #[I J m.now,I J (zp m.L),I J (xv (xa (zp m.L) c.qu)),I J ep,I J (zg m.L 1),I J (zg m.L 2),I J (zg m.L 3),I J m.Gl.length] 37))=Z at*
 generalize b5:H.1.size=wb at*
 obtain⟨z0,-,-,-,-,-,-,-,z11,-⟩:=o.cells
 dsimp only at z0 z11
 obtain⟨gz,aX,a8,aQ,t0,t1⟩:=yb o.krow (j:=i) (by rw[zH];exact d)
 rw[zH]at a8
 dsimp only at a8
 cases a8
 have t:(vB ep k)[i]'(by rw[zH];exact d)=⟨ep,(i:Int)+1⟩:=(List.getElem?_eq_some_iff.1 (ko ep k i d)).2
 rw[t]at t0 t1
 dsimp only at t0 t1
 have zl:=o.lt
 dsimp only at zl
 have l:=zd o
 have ag:=zd al
 have ai:=zd an
 have ah:=zd am
 have aj:=(o.later (O _ _).drew).mill
 have HC:=zd (zeQ aj ⟨ep,(i:Int)+1⟩ ⟨aI,by unfold xh;dsimp only;omega⟩ a6 az aA (ud HO).ok.now ay (by have:=(ud HO).ok.t800 hc;omega))
 have T:Hid (qP c ep m ns {m with TL:=qq m.TL g9.job (x9.failed m.now),QL:=xe m.QL ⟨ep,(i:Int)+1⟩} ns):=qP.failed m ns _ g9 x9 a6 aA
 clear aj o al an am t
 refine xo 11 (by kernel_rfl) (by kernel_rfl) ?_
 simp only[List.take_succ_cons,List.take_zero,List.drop_succ_cons,List.drop_zero]
 repeat still_step
 refine wpStill_nil ?_
 go_wp2_with(first
  |(go_at_call 21;refine(ud HC).mono ?_;rintro e V2 ⟨rfl,hM,hK⟩;have y:Kx si Z V2:=((ud l).mill.below (O _ _).drew).trans hK;have s:=(ud l).putMill hM y;have s0:=(s.cells).1;dsimp only at s0;have sl:=s.lt;dsimp only at sl;have af:=zd (y.kept.heap (ud ai) ((ud l).mill.tag (ud ai) (by decide)));have ae:=zd (y.kept.heap (ud ah) ((ud l).mill.tag (ud ah) (by decide)));have K:=(ud T).ok hc hf (ud HO);have ab:=(K.ok.seg.u0 hc);have au:=(K.ok.seg.len400 hc);have a0:=zd (qa s.mill hc ⟨ab.1,Int.le_trans ab.2 (by decide)⟩ (E au (by decide)));dsimp only at a0;have aG:=zd s;have ac:=zd ((ud ag).trans (Bel.mill (ud l).mill y (E C (ud ag).size) (ud l).mlo));have aE:=zd K;clear hM hK y s K ab au)
  |(go_at_call 15;refine(ud a0).mono ?_;rintro e V3 ⟨rfl,f⟩;have F:=(f.block _ (za (ud af))).trans (ud af);have a9:=(f.block _ (za (ud ae))).trans (ud ae);obtain⟨w0,w1,-⟩:=zc F;have w2:V3.cell? ⟨wb,2,Y⟩=N (I J (xv (xa (zp m.L) c.qu))):=(by rw[xD F];rfl);obtain⟨-,-,-,w3,w4,w5,w6,w7,-⟩:=zc F;have wl:=za F;obtain⟨p0,-⟩:=zc a9;have pl:=za a9;have ad:=zd f;clear f F a9))
 go_ret
 have f:=(ud ad).alloc (ud ad).size (.cells #[I J m.now,I J (zp m.L),I J (xv (xa (zp m.L) c.qu)),I J ep,I J (zg m.L 1),I J (zg m.L 2),I J (zg m.L 3),I J m.Gl.length] 37)
 have ak:=(ud aG).later f
 have e0:qt ep (xe m.QL ⟨ep,(i:Int)+1⟩) k=(qt ep m.QL k).set i 0:=YR (ud HO).ok.nq k i
 rw[<-e0]at ak
 exact⟨rfl,_,ud T,⟨_,k,rfl,ak,hk,ud aE,aK,aL⟩,(ud ac).trans (Bel.of f (E C (ud ac).size))⟩
theorem zbv{w:A}{B p:Nat}{c:Cf}{ep:Int}{m:MS}{ns:List Nm}{j k:Nat}(hs:Y6 w B p c ep m ns j k)(x:c.ok)(hf:c.fits)(aY:xh ep)(kd a b v:Int)(i:Nat)(f:i<k)(r:Int)(bk:(k:Int)-1-r=i)(r0:0<=r/\r<k)(PK:∀W:A,Calls prog 31 #[I J a,I J k] W fun e w'=>e=.returned (I J r)/\w'=W)(hj:j<=4398046511104)(aI:¬kd=5){g9:Lse}(F:zQ m.QL ⟨ep,(i:Int)+1⟩=N g9)(d:Sg)(al am ak:Int)(a4:zQ m.TL g9.job=N ⟨true,d,al,am,ak⟩)(b5:g9.job.wf)(aG:inR c d)(k9:Nat)(aH:d.t=k9):
  Calls prog 41 #[.pointer (N ⟨p,0,Y⟩),.agg #[I J kd,I J a,I J b,I S v]] w fun e w'=>e=.returned (.bool true)/\jD w w' B p c ep m ns j:=by
 have M:=hs.size
 obtain⟨⟨sp,si,sd,bo,bq,bp,br⟩,rfl,h,hk,ho,b0,b1⟩:=hs
 dsimp only at*
 obtain⟨r0,r1⟩:=r0
 have bl:B<=sp:=h.lo
 have b2:=ho.ok.seg.u0 x
 have ba:=ho.ok.seg.len400 x
 have ac:D w.1.size w (w.alloc (.cells #[I J kd,I J a,I J b,I S v] 33)):=(O _ _).alloc (Q _) _
 have q0:=zm w (.cells #[I J kd,I J a,I J b,I S v] 33)
 have s:=h.later ac
 obtain⟨g,gc,af,aZ,ad,ae⟩:=yb s.krow (j:=i) (by rw[zH];exact f)
 obtain⟨o,aU,G,aF,ai,b3⟩:=vs s.urow (j:=i) (by rw[zP];exact f)
 rw[zH]at af
 rw[zP]at G
 dsimp only at af G
 subst af
 subst G
 have C:(vB ep k)[i]'(by rw[zH];exact f)=⟨ep,(i:Int)+1⟩:=(List.getElem?_eq_some_iff.1 (ko ep k i f)).2
 have aD:(qt ep m.QL k)[i]'(by rw[zP];exact f)=kK m.QL ⟨ep,(i:Int)+1⟩:=(List.getElem?_eq_some_iff.1 (yE ep m.QL k i f)).2
 rw[C]at ad ae
 rw[aD]at ai
 dsimp only at ad ae
 have K:=(s.setUnt (g:=o) (cap:=aU) (by rw[zP]) i 0).later (O _ _).drew
 obtain⟨x0,-,-,-,-,-,-,-,aN,aO⟩:=s.cells
 dsimp only at x0 aN aO
 have xl:=s.lt
 dsimp only at xl
 obtain⟨o0,o1,-⟩:=zc q0
 have ol:=za q0
 have aK:¬o=sp:=zu s.head s.urow (by decide) o rfl
 have bb:¬sp=o:=fun e=>aK e.symm
 have aL:¬o=g:=fun e=>xr s.urow s.krow (by decide) o rfl (by simp[Value.ownBlock,e])
 have bc:¬g=o:=fun e=>aL e.symm
 have bj:w.1.size<(w.alloc (.cells #[I J kd,I J a,I J b,I S v] 33)).1.size:=ol
 have aM:¬o=w.1.size:=fun e=>by have:=h.foot_lt o (.inr (.inr (.inr (.inr rfl))));omega
 have aa:¬w.1.size=o:=fun e=>aM e.symm
 have e1:IntKind.i64.wrap ((k:Int)-1)=(k:Int)-1:=by rw[IntKind.wrap_i64];omega
 have e2:IntKind.i64.wrap ((k:Int)-1-r)=i:=by rw[IntKind.wrap_i64];omega
 have b9:(i:Int)<k:=by omega
 have bg:((k:Int)==0)=false:=by simp;omega
 have a7:=zd (qa K.mill x ⟨b2.1,by omega⟩ (by omega))
 have a6:=zd K
 have Q0:=zd q0
 have aE:Bel B w (w.alloc (.cells #[I J kd,I J a,I J b,I S v] 33)):=Bel.of ac M
 have aP:=zd aE
 have HX:=zd s
 have aR:=fun W=>zd (PK W)
 have HO:=zd ho
 have b7:B<=o:=(s.urow.lt o rfl).1
 clear h s ac q0 K C aD aE ho PK
 have bh:(kd==5)=false:=by simp[aI]
 have ab:=(ud HO).ok.unt_pos F
 have b4:0<kK m.QL ⟨ep,(i:Int)+1⟩:=by rw[ab.1];exact ab.2
 generalize be:kK m.QL ⟨ep,(i:Int)+1⟩=u at ai b4
 have bf:(zg m.L 2==zg m.L 2-1)=false:=by simp;omega
 have b6:¬zg m.L 2=zg m.L 2-1:=by omega
 clear aI
 go_enter func41,ntmps41
 go_wp2_with fail
 generalize(w.alloc (.cells #[I J kd,I J a,I J b,I S v] 33))=X at*
 refine wp_region_still_lit (by kernel_rfl) (by kernel_rfl) ?_
 repeat still_step
 still_call (ud (aR _))
 repeat still_step
 refine wpStill_nil ?_
 go_wp2_with fail
 refine(ud a7).mono ?_
 rintro e U ⟨rfl,a3⟩
 have T:=zd a3
 have bn:w.1.size<U.1.size:=P ol (E (Nat.le_of_eq (jU X o i (I J 0)).symm) a3.size)
 have p0:=(a3.cell (p:=⟨w.1.size,0,Y⟩) (by rw[jU];exact ol)).trans ((Xl (i:=i) (v:=I J 0) aa).trans o0)
 clear a3 a7
 go_wp2_with fail
 have q:=((ud a6).later (ud T)).later ((O U.1.size U).alloc (Q _) (.cells #[I J m.now,I J (zp m.L),I J (xv (xa (zp m.L) c.qu)),I J ep,I J (zg m.L 1),I J (zg m.L 2),I J (zg m.L 3),I J m.Gl.length] 37))
 have aA:Bel B w (U.alloc (.cells #[I J m.now,I J (zp m.L),I J (xv (xa (zp m.L) c.qu)),I J ep,I J (zg m.L 1),I J (zg m.L 2),I J (zg m.L 3),I J m.Gl.length] 37)):=by
  have k1:=(Bel.unt (i:=i) (ud HX).urow (I J 0)).drew
  have k2:=(ud aP).trans k1
  have k3:=k2.trans (Bel.of (ud T) (E M k2.size))
  exact k3.alloc (E M k3.size) _
 have aC:=zm U (.cells #[I J m.now,I J (zp m.L),I J (xv (xa (zp m.L) c.qu)),I J ep,I J (zg m.L 1),I J (zg m.L 2),I J (zg m.L 3),I J m.Gl.length] 37)
 have a0:U.1[w.1.size]?=N (.cells #[I J kd,I J a,I J b,I S v] 33 (0,0)):=((ud T).block _ (by rw[jU];exact ol)).trans ((Zr aa).trans (ud Q0))
 have aB:=(Below.heap_alloc _ (.cells #[I J m.now,I J (zp m.L),I J (xv (xa (zp m.L) c.qu)),I J ep,I J (zg m.L 1),I J (zg m.L 2),I J (zg m.L 3),I J m.Gl.length] 37) _ (za a0)).trans a0
 have bi:¬w.1.size=U.1.size:=by have:=za a0;omega
 clear o0 o1 p0 x0 aN aO ad ae ai b3 aZ aF xl a0 T a6
 generalize(U.alloc (.cells #[I J m.now,I J (zp m.L),I J (xv (xa (zp m.L) c.qu)),I J ep,I J (zg m.L 1),I J (zg m.L 2),I J (zg m.L 3),I J m.Gl.length] 37))=Z at*
 generalize bm:U.1.size=wb at*
 obtain⟨z0,-,-,-,-,-,-,-,z11,-⟩:=q.cells
 dsimp only at z0 z11
 obtain⟨gz,bd,ag,b8,t0,t1⟩:=yb q.krow (j:=i) (by rw[zH];exact f)
 rw[zH]at ag
 dsimp only at ag
 cases ag
 have C:(vB ep k)[i]'(by rw[zH];exact f)=⟨ep,(i:Int)+1⟩:=(List.getElem?_eq_some_iff.1 (ko ep k i f)).2
 rw[C]at t0 t1
 dsimp only at t0 t1
 have zl:=q.lt
 dsimp only at zl
 have n:=zd q
 have ar:=zd aA
 have av:=zd aC
 have au:=zd aB
 have aw:=(q.later (O _ _).drew).mill
 obtain⟨a1,a2,ax,ay⟩:=(ud HO).ok.rolled F a4 rfl (xi (zW c m.L d.sr d.wa k9))
 dsimp only at a1 a2 ax ay
 have aX:zp (qT m.L d ⟨3,xi (zW c m.L d.sr d.wa k9)⟩)=zp m.L:=by
  have:=a2 qO
  have e1:qO (stL m.L d)=2:=by unfold qO;rw[if_neg (by omega)]
  have e2:qO ⟨3,xi (zW c m.L d.sr d.wa k9)⟩=2:=by simp[qO]
  rw[e1,e2]at this
  unfold zp;omega
 have aV:zg (qT m.L d ⟨3,xi (zW c m.L d.sr d.wa k9)⟩) 1=zg m.L 1:=by
  have:=a2 (Qz 1)
  have e1:Qz 1 (stL m.L d)=0:=by unfold Qz;rw[if_neg (by omega)]
  have e2:Qz 1 ⟨3,xi (zW c m.L d.sr d.wa k9)⟩=0:=by simp[Qz]
  rw[e1,e2]at this
  unfold zg;omega
 have a8:=a1.seg.inr
 have a9:=a1.seg.len400 x
 have HC:=zd (jH aw x ⟨ep,(i:Int)+1⟩ ⟨aY,by unfold xh;dsimp only;omega⟩ F b5 d al am ak a4 aG k9 aH (by omega) (by have:=(ud HO).gl x;omega) a8 (E a9 (by decide)) (ud HO).ok.now (by have:=(ud HO).ok.t800 x;omega))
 clear aw q aA aC aB C a8 a9 a1 a2 ax ay
 refine xo 11 (by kernel_rfl) (by kernel_rfl) ?_
 simp only[List.take_succ_cons,List.take_zero,List.drop_succ_cons,List.drop_zero]
 repeat still_step
 refine wpStill_nil ?_
 go_wp2_with(first
  |(go_at_call 20;refine(ud HC).mono ?_;rintro e V2 ⟨rfl,aT,hM,hK,hP⟩;have H:Kx si Z V2:=((ud n).mill.below (O _ _).drew).trans hK;have z:=(ud n).putMill hM H;have s0:=(z.cells).1;dsimp only at s0;have sl:=z.lt;dsimp only at sl;have aq:=zd (H.kept.heap (ud av) ((ud n).mill.tag (ud av) (by decide)));have ap:=zd (H.kept.heap (ud au) ((ud n).mill.tag (ud au) (by decide)));have a5:=zd (qP.rolled (c:=c) (ep:=ep) m ns _ g9 d al am ak k9 aT F a4 aH hP);have V:=(ud a5).ok x hf (ud HO);have aW:=((ud HO).roll x hf F a4 _ hP).2;clear hP;have aj:=(V.ok.seg.u0 x);have aJ:=(V.ok.seg.len400 x);have y:=zd (qa z.mill x ⟨aj.1,Int.le_trans aj.2 (by decide)⟩ (E aJ (by decide)));dsimp only at y;rw[aX,aV,aW]at y;have aS:=zd z;have an:=zd ((ud ar).trans (Bel.mill (ud n).mill H (E M (ud ar).size) (ud n).mlo));have aQ:=zd V;clear hM hK H z V aj aJ)
  |(go_at_call 15;refine(ud y).mono ?_;rintro e V3 ⟨rfl,l⟩;have R:=(l.block _ (za (ud aq))).trans (ud aq);have ah:=(l.block _ (za (ud ap))).trans (ud ap);obtain⟨w0,w1,-⟩:=zc R;have w2:V3.cell? ⟨wb,2,Y⟩=N (I J (xv (xa (zp m.L) c.qu))):=(by rw[xD R];rfl);obtain⟨-,-,-,w3,w4,w5,w6,w7,-⟩:=zc R;have wl:=za R;obtain⟨p0,-⟩:=zc ah;have pl:=za ah;have ao:=zd l;clear l R ah))
 go_ret
 have l:=(ud ao).alloc (ud ao).size (.cells #[I J m.now,I J (zp m.L),I J (xv (xa (zp m.L) c.qu)),I J ep,I J (zg m.L 1),I J (zg m.L 2-1),I J (zg (qT m.L d ⟨3,xi (zW c m.L d.sr d.wa k9)⟩) 3),I J m.Gl.length] 37)
 have az:=(ud aS).later l
 have e0:qt ep (xe m.QL ⟨ep,(i:Int)+1⟩) k=(qt ep m.QL k).set i 0:=YR (ud HO).ok.nq k i
 rw[<-e0]at az
 exact⟨rfl,_,ud a5,⟨_,k,rfl,az,hk,ud aQ,b0,b1⟩,(ud an).trans (Bel.of l (E M (ud an).size))⟩
theorem zbu{w:A}{B p:Nat}{c:Cf}{ep:Int}{m:MS}{ns:List Nm}{j k:Nat}(hs:Y6 w B p c ep m ns j k)(y:c.ok)(hf:c.fits)(aV:xh ep)(kd a b v:Int)(i:Nat)(d:i<k)(r:Int)(bg:(k:Int)-1-r=i)(r0:0<=r/\r<k)(PK:∀W:A,Calls prog 31 #[I J a,I J k] W fun e w'=>e=.returned (I J r)/\w'=W)(hj:j<=4398046511104)(aH:¬kd=5){g9:Lse}(a0:zQ m.QL ⟨ep,(i:Int)+1⟩=N g9)(s:Sg)(al am ak:Int)(aj:zQ m.TL g9.job=N ⟨false,s,al,am,ak⟩)(b2:g9.job.wf)(aG:inR c s):
  Calls prog 41 #[.pointer (N ⟨p,0,Y⟩),.agg #[I J kd,I J a,I J b,I S v]] w fun e w'=>e=.returned (.bool true)/\jD w w' B p c ep m ns j:=by
 have G:=hs.size
 obtain⟨⟨sp,si,sd,bk,bm,bl,bn⟩,rfl,h,hk,ho,aX,aY⟩:=hs
 dsimp only at*
 obtain⟨r0,r1⟩:=r0
 have bh:B<=sp:=h.lo
 have aZ:=ho.ok.seg.u0 y
 have b6:=ho.ok.seg.len400 y
 have ab:D w.1.size w (w.alloc (.cells #[I J kd,I J a,I J b,I S v] 33)):=(O _ _).alloc (Q _) _
 have q0:=zm w (.cells #[I J kd,I J a,I J b,I S v] 33)
 have q:=h.later ab
 obtain⟨g,gc,ae,aW,ac,ad⟩:=yb q.krow (j:=i) (by rw[zH];exact d)
 obtain⟨n,aT,z,aF,ah,b0⟩:=vs q.urow (j:=i) (by rw[zP];exact d)
 rw[zH]at ae
 rw[zP]at z
 dsimp only at ae z
 subst ae
 subst z
 have x:(vB ep k)[i]'(by rw[zH];exact d)=⟨ep,(i:Int)+1⟩:=(List.getElem?_eq_some_iff.1 (ko ep k i d)).2
 have aD:(qt ep m.QL k)[i]'(by rw[zP];exact d)=kK m.QL ⟨ep,(i:Int)+1⟩:=(List.getElem?_eq_some_iff.1 (yE ep m.QL k i d)).2
 rw[x]at ac ad
 rw[aD]at ah
 dsimp only at ac ad
 have F:=(q.setUnt (g:=n) (cap:=aT) (by rw[zP]) i 0).later (O _ _).drew
 obtain⟨x0,-,-,-,-,-,-,-,aM,aN⟩:=q.cells
 dsimp only at x0 aM aN
 have xl:=q.lt
 dsimp only at xl
 obtain⟨o0,o1,-⟩:=zc q0
 have ol:=za q0
 have aJ:¬n=sp:=zu q.head q.urow (by decide) n rfl
 have b7:¬sp=n:=fun e=>aJ e.symm
 have aK:¬n=g:=fun e=>xr q.urow q.krow (by decide) n rfl (by simp[Value.ownBlock,e])
 have b8:¬g=n:=fun e=>aK e.symm
 have bf:w.1.size<(w.alloc (.cells #[I J kd,I J a,I J b,I S v] 33)).1.size:=ol
 have aL:¬n=w.1.size:=fun e=>by have:=h.foot_lt n (.inr (.inr (.inr (.inr rfl))));omega
 have a7:¬w.1.size=n:=fun e=>aL e.symm
 have e1:IntKind.i64.wrap ((k:Int)-1)=(k:Int)-1:=by rw[IntKind.wrap_i64];omega
 have e2:IntKind.i64.wrap ((k:Int)-1-r)=i:=by rw[IntKind.wrap_i64];omega
 have b5:(i:Int)<k:=by omega
 have bc:((k:Int)==0)=false:=by simp;omega
 have a3:=zd (qa F.mill y ⟨aZ.1,by omega⟩ (by omega))
 have a2:=zd F
 have Q0:=zd q0
 have aE:Bel B w (w.alloc (.cells #[I J kd,I J a,I J b,I S v] 33)):=Bel.of ab G
 have aO:=zd aE
 have HX:=zd q
 have aQ:=fun W=>zd (PK W)
 have HO:=zd ho
 have b3:B<=n:=(q.urow.lt n rfl).1
 clear h q ab q0 F x aD aE ho PK
 have bd:(kd==5)=false:=by simp[aH]
 have a8:=(ud HO).ok.unt_pos a0
 have b1:0<kK m.QL ⟨ep,(i:Int)+1⟩:=by rw[a8.1];exact a8.2
 generalize bb:kK m.QL ⟨ep,(i:Int)+1⟩=u at ah b1
 clear aH
 go_enter func41,ntmps41
 go_wp2_with fail
 generalize(w.alloc (.cells #[I J kd,I J a,I J b,I S v] 33))=X at*
 refine wp_region_still_lit (by kernel_rfl) (by kernel_rfl) ?_
 repeat still_step
 still_call (ud (aQ _))
 repeat still_step
 refine wpStill_nil ?_
 go_wp2_with fail
 refine(ud a3).mono ?_
 rintro e M ⟨rfl,V⟩
 have K:=zd V
 have bj:w.1.size<M.1.size:=P ol (E (Nat.le_of_eq (jU X n i (I J 0)).symm) V.size)
 have p0:=(V.cell (p:=⟨w.1.size,0,Y⟩) (by rw[jU];exact ol)).trans ((Xl (i:=i) (v:=I J 0) a7).trans o0)
 clear V a3
 go_wp2_with fail
 have o:=((ud a2).later (ud K)).later ((O M.1.size M).alloc (Q _) (.cells #[I J m.now,I J (zp m.L),I J (xv (xa (zp m.L) c.qu)),I J ep,I J (zg m.L 1),I J (zg m.L 2),I J (zg m.L 3),I J m.Gl.length] 37))
 have aA:Bel B w (M.alloc (.cells #[I J m.now,I J (zp m.L),I J (xv (xa (zp m.L) c.qu)),I J ep,I J (zg m.L 1),I J (zg m.L 2),I J (zg m.L 3),I J m.Gl.length] 37)):=by
  have k1:=(Bel.unt (i:=i) (ud HX).urow (I J 0)).drew
  have k2:=(ud aO).trans k1
  have k3:=k2.trans (Bel.of (ud K) (E G k2.size))
  exact k3.alloc (E G k3.size) _
 have aC:=zm M (.cells #[I J m.now,I J (zp m.L),I J (xv (xa (zp m.L) c.qu)),I J ep,I J (zg m.L 1),I J (zg m.L 2),I J (zg m.L 3),I J m.Gl.length] 37)
 have T:M.1[w.1.size]?=N (.cells #[I J kd,I J a,I J b,I S v] 33 (0,0)):=((ud K).block _ (by rw[jU];exact ol)).trans ((Zr a7).trans (ud Q0))
 have aB:=(Below.heap_alloc _ (.cells #[I J m.now,I J (zp m.L),I J (xv (xa (zp m.L) c.qu)),I J ep,I J (zg m.L 1),I J (zg m.L 2),I J (zg m.L 3),I J m.Gl.length] 37) _ (za T)).trans T
 have be:¬w.1.size=M.1.size:=by have:=za T;omega
 clear o0 o1 p0 x0 aM aN ac ad ah b0 aW aF xl T K a2
 generalize(M.alloc (.cells #[I J m.now,I J (zp m.L),I J (xv (xa (zp m.L) c.qu)),I J ep,I J (zg m.L 1),I J (zg m.L 2),I J (zg m.L 3),I J m.Gl.length] 37))=Z at*
 generalize bi:M.1.size=wb at*
 obtain⟨z0,-,-,-,-,-,-,-,z11,-⟩:=o.cells
 dsimp only at z0 z11
 obtain⟨gz,b9,af,b4,t0,t1⟩:=yb o.krow (j:=i) (by rw[zH];exact d)
 rw[zH]at af
 dsimp only at af
 cases af
 have x:(vB ep k)[i]'(by rw[zH];exact d)=⟨ep,(i:Int)+1⟩:=(List.getElem?_eq_some_iff.1 (ko ep k i d)).2
 rw[x]at t0 t1
 dsimp only at t0 t1
 have zl:=o.lt
 dsimp only at zl
 have l:=zd o
 have ar:=zd aA
 have av:=zd aC
 have au:=zd aB
 have aw:=(o.later (O _ _).drew).mill
 obtain⟨U,aa,ax,a9,ay⟩:=(ud HO).ok.reclaimed a0 aj rfl
 dsimp only at U aa ax a9 ay
 have aU:¬zp m.L=zp (xe m.L s):=by
  have:=aa qO
  have e1:=(ud HO).ok.seg.use _ (xu a9)
  dsimp only at e1
  unfold zp;omega
 have ba:(zp m.L==zp (xe m.L s))=false:=by simpa using aU
 have a5:=U.seg.inr
 have a6:=U.seg.len400 y
 have HC:=zd (kG aw y ⟨ep,(i:Int)+1⟩ ⟨aV,by unfold xh;dsimp only;omega⟩ a0 b2 s al am ak aj aG (by omega) (by have:=(ud HO).gl y;omega) a5 (E a6 (by decide)) (ud HO).ok.now (by have:=(ud HO).ok.t800 y;omega))
 clear aw o aA aC aB x a5 a6 U aa ax a9 ay
 refine xo 11 (by kernel_rfl) (by kernel_rfl) ?_
 simp only[List.take_succ_cons,List.take_zero,List.drop_succ_cons,List.drop_zero]
 repeat still_step
 refine wpStill_nil ?_
 go_wp2_with(first
  |(go_at_call 20;refine(ud HC).mono ?_;rintro e V2 ⟨rfl,aS,hM,hK,hP⟩;have C:Kx si Z V2:=((ud l).mill.below (O _ _).drew).trans hK;have t:=(ud l).putMill hM C;have s0:=(t.cells).1;dsimp only at s0;have sl:=t.lt;dsimp only at sl;have aq:=zd (C.kept.heap (ud av) ((ud l).mill.tag (ud av) (by decide)));have ap:=zd (C.kept.heap (ud au) ((ud l).mill.tag (ud au) (by decide)));have a1:=zd (qP.reclaimed (c:=c) (ep:=ep) m ns _ g9 s al am ak aS a0 aj hP);have R:=(ud a1).ok y hf (ud HO);clear hP;have ai:=(R.ok.seg.u0 y);have aI:=(R.ok.seg.len400 y);have a4:=zd (qa t.mill y ⟨ai.1,Int.le_trans ai.2 (by decide)⟩ (E aI (by decide)));dsimp only at a4;have aR:=zd t;have an:=zd ((ud ar).trans (Bel.mill (ud l).mill C (E G (ud ar).size) (ud l).mlo));have aP:=zd R;clear hM hK C t R ai aI)
  |(go_at_call 15;refine(ud a4).mono ?_;rintro e V3 ⟨rfl,f⟩;have H:=(f.block _ (za (ud aq))).trans (ud aq);have ag:=(f.block _ (za (ud ap))).trans (ud ap);obtain⟨w0,w1,-⟩:=zc H;have w2:V3.cell? ⟨wb,2,Y⟩=N (I J (xv (xa (zp m.L) c.qu))):=(by rw[xD H];rfl);obtain⟨-,-,-,w3,w4,w5,w6,w7,-⟩:=zc H;have wl:=za H;obtain⟨p0,-⟩:=zc ag;have pl:=za ag;have ao:=zd f;clear f H ag))
 go_ret
 have f:=(ud ao).alloc (ud ao).size (.cells #[I J m.now,I J (zp (xe m.L s)),I J (xv (xa (zp (xe m.L s)) c.qu)),I J ep,I J (zg (xe m.L s) 1),I J (zg (xe m.L s) 2),I J (zg (xe m.L s) 3),I J (qq m.Gl s ()).length] 37)
 have az:=(ud aR).later f
 have e0:qt ep (xe m.QL ⟨ep,(i:Int)+1⟩) k=(qt ep m.QL k).set i 0:=YR (ud HO).ok.nq k i
 rw[<-e0]at az
 exact⟨rfl,_,ud a1,⟨_,k,rfl,az,hk,ud aP,aX,aY⟩,(ud an).trans (Bel.of f (E G (ud an).size))⟩
theorem zbt{w:A}{B p:Nat}{c:Cf}{ep:Int}{m:MS}{ns:List Nm}{j:Nat}(q:Y6 w B p c ep m ns j 0)(kd a b v:Int):
  Calls prog 41 #[.pointer (N ⟨p,0,Y⟩),.agg #[I J kd,I J a,I J b,I S v]] w fun e w'=>e=.returned (.bool true)/\jD w w' B p c ep m ns j:=by
 have l:=q.size
 obtain⟨⟨M,L,K,x,z,y,C⟩,rfl,h,u,o,i,k⟩:=q
 dsimp only at*
 obtain⟨G,H,f⟩:=zS h.krow
 rw[zH]at f
 dsimp only at f
 subst f
 have d:D w.1.size w (w.alloc (.cells #[I J kd,I J a,I J b,I S v] 33)):=(O _ _).alloc (Q _) _
 have g:=h.later d
 obtain⟨-,-,-,-,-,-,-,-,n,-⟩:=g.cells
 dsimp only at n
 have F:=g.lt
 dsimp only at F
 have t:=zd g
 have r:=zd (Bel.of d l)
 have s:=zd o
 clear h g d o
 go_enter func41,ntmps41
 go_wp2_with fail
 go_ret
 exact⟨rfl,m,qP.same m ns,⟨_,0,rfl,ud t,u,ud s,i,k⟩,ud r⟩
theorem Q8{w:A}{B p:Nat}{c:Cf}{ep:Int}{m:MS}{ns:List Nm}{j:Nat}(n:vF w B p c ep m ns j)(q:c.ok)(y:c.fits)(f:xh ep)(kd a b v:Int)(ha: -9223372036854775808<=a/\a<=9223372036854775807)(z:j<=4398046511104):
  Calls prog 41 #[.pointer (N ⟨p,0,Y⟩),.agg #[I J kd,I J a,I J b,I S v]] w fun e w'=>e=.returned (.bool true)/\jD w w' B p c ep m ns j:=by
 obtain⟨s,k,X,Z,hk,ho,R,U⟩:=n
 have n:Y6 w B p c ep m ns j k:=⟨s,X,Z,hk,ho,R,U⟩
 clear X Z
 by_cases L:k=0
 ·subst L
  exact zbt n kd a b v
 ·obtain⟨r,C,F,u⟩:=xS a k ha (by omega)
  have l:(k:Int)-1-r=(((k:Int)-1-r).toNat:Int):=by omega
  have h:((k:Int)-1-r).toNat<k:=by omega
  generalize((k:Int)-1-r).toNat=i at*
  cases t:zQ m.QL ⟨ep,(i:Int)+1⟩with
  |none=>
   by_cases d:kd=5
   ·exact zdC n q y f kd a b v i h r l ⟨C,F⟩ u z d t
   ·exact zdB n q y f kd a b v i h r l ⟨C,F⟩ u z d t
  |some g=>
   obtain⟨x,W,o,hin,T,V⟩:=ho.job q t
   by_cases d:kd=5
   ·exact zbs n q y f kd a b v i h r l ⟨C,F⟩ u z d t W o V
   ·obtain⟨rl,s9,H,K,G⟩:=x
    cases rl with
    |true=>
     obtain⟨k9,M⟩:=T rfl
     exact zbv n q y f kd a b v i h r l ⟨C,F⟩ u z d t s9 H K G W o hin k9 M
    |false=>exact zbu n q y f kd a b v i h r l ⟨C,F⟩ u z d t s9 H K G W o hin
def ku(w w':A)(B p:Nat)(c:Cf)(ep:Int)(m:MS)(ns:List Nm)(j:Nat)(kd:Int):Prop:=∃m1 m' a,qP c ep m ns m1 a/\qP c ep m1 a m' a/\vF w' B p c ep m' a (j+1)/\Bel B w w'/\(kd=1->(m'=m/\a=ns/\c.qu<zp m.L+1+2*c.n)\/∃x,a=ns++[x]/\zp m.L<zp m'.L/\zp m'.L<=zp m.L+1+2*c.n)/\(¬kd=1->a=ns)
theorem zhX{w:A}{B p:Nat}{c:Cf}{ep:Int}{m:MS}{ns:List Nm}{j:Nat}(h:vF w B p c ep m ns j)(F:c.ok)(H:c.fits)(G:xh ep)(kd a b v:Int)(C: -9223372036854775808<=a/\a<=9223372036854775807)(hbb: -9223372036854775808<=b/\b<=9223372036854775807)(hv: -2147483648<=v/\v<=2147483647)(K:j<4398046511104)(d:kd=1):
  Calls prog 13 #[.pointer (N ⟨p,0,Y⟩),.agg #[I J kd,I J a,I J b,I S v]] w fun e w'=>e=.returned (.bool true)/\ku w w' B p c ep m ns j kd:=by
 have k:=h.size
 have f:D w.1.size w (w.alloc (.cells #[I J kd,I J a,I J b,I S v] 33)):=(O _ _).alloc (Q _) _
 have l:=zm w (.cells #[I J kd,I J a,I J b,I S v] 33)
 have o:=h.later f
 obtain⟨Z,o1,o2,o3,-⟩:=zc l
 have ol:=za l
 have i:=zd (Bel.of f k)
 have q:=zd f
 have t:=zd o
 have M:=zd h
 clear f l o h
 have L:(kd==1)=true:=by subst d;rfl
 have R:(kd==2)=false:=by subst d;rfl
 have T:(kd==3)=false:=by subst d;rfl
 have U:(kd==4)=false:=by subst d;rfl
 have W:(kd==5)=false:=by subst d;rfl
 have X:(kd==6)=false:=by subst d;rfl
 have r:=zd (zfK (ud t) F H kd a b v C hbb hv K)
 clear d
 go_enter func13,ntmps13
 go_wp2_with(first|(go_at_call 39;refine(ud r).mono ?_;rintro e V ⟨rfl,n⟩;have s:=zd n;clear n))
 go_ret
 obtain⟨m',g,u,x,y,z⟩:=ud s
 exact⟨rfl,m',m',g,u,qP.same m' g,x,(ud i).trans y,fun _=>z,fun e=>absurd (by simpa using L) e⟩
theorem zhY{w:A}{B p:Nat}{c:Cf}{ep:Int}{m:MS}{ns:List Nm}{j:Nat}(n:vF w B p c ep m ns j)(M:c.ok)(T:c.fits)(R:xh ep)(kd a b v:Int)(L: -9223372036854775808<=a/\a<=9223372036854775807)(hbb: -9223372036854775808<=b/\b<=9223372036854775807)(hv: -2147483648<=v/\v<=2147483647)(hj:j<4398046511104)(d:kd=2):
  Calls prog 13 #[.pointer (N ⟨p,0,Y⟩),.agg #[I J kd,I J a,I J b,I S v]] w fun e w'=>e=.returned (.bool true)/\ku w w' B p c ep m ns j kd:=by
 have l:=n.size
 have f:D w.1.size w (w.alloc (.cells #[I J kd,I J a,I J b,I S v] 33)):=(O _ _).alloc (Q _) _
 have u:=zm w (.cells #[I J kd,I J a,I J b,I S v] 33)
 have y:=n.later f
 obtain⟨o0,o1,o2,o3,-⟩:=zc u
 have ol:=za u
 have h:=zd (Bel.of f l)
 have C:=zd f
 have s:=zd y
 have X:=zd n
 clear f u y n
 have k1:(kd==1)=false:=by subst d;rfl
 have k2:(kd==2)=true:=by subst d;rfl
 have k3:(kd==3)=false:=by subst d;rfl
 have k4:(kd==4)=false:=by subst d;rfl
 have k5:(kd==5)=false:=by subst d;rfl
 have k6:(kd==6)=false:=by subst d;rfl
 have g:¬kd=1:=by omega
 obtain⟨r,r0,r1,x⟩:=xS a 1000 L (by omega)
 have i:=fun W=>zd (x W)
 have Z:IntKind.i64.wrap (1+r)=1+r:=by rw[IntKind.wrap_i64];omega
 clear d x
 by_cases U:100000<m.now+(1+r)
 ·have q:=zd (zbA (ud s) (1+r) ⟨by omega,by omega⟩ U)
  go_enter func13,ntmps13
  go_wp2_with(first
   |(go_at_call 31;refine(ud (i _)).mono ?_;rintro e F ⟨rfl,t⟩;subst t)
   |(go_at_call 17;refine(ud q).mono ?_;rintro e V ⟨rfl,k⟩;have o:=zd k;clear k))
  go_ret
  have z:=(ud o)
  exact⟨rfl,m,m,ns,qP.same m ns,qP.same m ns,((ud s).later z).mono (Nat.le_succ j),(ud h).trans (Bel.of z (E l (ud h).size)),fun e=>absurd e g,fun _=>rfl⟩
 ·have q:=zd (zbz (ud s) M T (1+r) ⟨by omega,by omega⟩ (by omega) (by omega))
  go_enter func13,ntmps13
  go_wp2_with(first
   |(go_at_call 31;refine(ud (i _)).mono ?_;rintro e F ⟨rfl,t⟩;subst t)
   |(go_at_call 17;refine(ud q).mono ?_;rintro e V ⟨rfl,k⟩;have o:=zd k;clear k))
  go_ret
  obtain⟨m',G,H,K⟩:=ud o
  exact⟨rfl,m',m',ns,G,qP.same m' ns,H.mono (Nat.le_succ j),(ud h).trans K,fun e=>absurd e g,fun _=>rfl⟩
theorem zhZ{w:A}{B p:Nat}{c:Cf}{ep:Int}{m:MS}{ns:List Nm}{j:Nat}(l:vF w B p c ep m ns j)(G:c.ok)(hf:c.fits)(q:xh ep)(kd a b v:Int)(Z: -9223372036854775808<=a/\a<=9223372036854775807)(hbb: -9223372036854775808<=b/\b<=9223372036854775807)(hv: -2147483648<=v/\v<=2147483647)(hj:j<4398046511104)(d:kd=3):
  Calls prog 13 #[.pointer (N ⟨p,0,Y⟩),.agg #[I J kd,I J a,I J b,I S v]] w fun e w'=>e=.returned (.bool true)/\ku w w' B p c ep m ns j kd:=by
 have u:=l.size
 have g:D w.1.size w (w.alloc (.cells #[I J kd,I J a,I J b,I S v] 33)):=(O _ _).alloc (Q _) _
 have x:=zm w (.cells #[I J kd,I J a,I J b,I S v] 33)
 have F:=l.later g
 obtain⟨o0,o1,o2,o3,-⟩:=zc x
 have ol:=za x
 have n:=zd (Bel.of g u)
 have K:=zd g
 have y:=zd F
 have HS:=zd l
 clear g x F l
 have k1:(kd==1)=false:=by subst d;rfl
 have k2:(kd==2)=false:=by subst d;rfl
 have k3:(kd==3)=true:=by subst d;rfl
 have k4:(kd==4)=false:=by subst d;rfl
 have k5:(kd==5)=false:=by subst d;rfl
 have k6:(kd==6)=false:=by subst d;rfl
 have i:¬kd=1:=by omega
 have a0:=G.sl
 obtain⟨r,r0,r1,z⟩:=xS a c.s Z (by omega)
 have o:=fun W=>zd (z W)
 obtain⟨s9,k9,t,f,a1,-,H,-⟩:=ud y
 obtain⟨-,x2,-,-,-,-,-,-,k,-⟩:=f.cells
 have xl:=f.lt
 rw[t]at x2 k xl
 obtain⟨ka,kc,h⟩:=zS f.krow
 rw[zH]at h
 rw[h]at k
 clear f h d z
 have M:=zd (Vp ((ud y).later (O _ _).drew) G hf q r ⟨r0,r1⟩ hj)
 go_enter func13,ntmps13
 go_wp2_with fail
 generalize(w.alloc (.cells #[I J kd,I J a,I J b,I S v] 33))=X at*
 refine xo 9 (by kernel_rfl) (by kernel_rfl) ?_
 simp only[List.take_succ_cons,List.take_zero,List.drop_succ_cons,List.drop_zero]
 repeat still_step
 still_call (ud (o _))
 refine wpStill_nil ?_
 go_wp2_with(first|(go_at_call 40;refine(ud M).mono ?_;rintro e V ⟨rfl,C⟩;have L:=zd C;clear C))
 go_ret
 obtain⟨m',R,T,U,_⟩:=ud L
 exact⟨rfl,m',m',ns,R,qP.same m' ns,T,((ud n).drew).trans U,fun e=>absurd e i,fun _=>rfl⟩
theorem zia{w:A}{B p:Nat}{c:Cf}{ep:Int}{m:MS}{ns:List Nm}{j:Nat}(h:vF w B p c ep m ns j)(F:c.ok)(G:c.fits)(k:xh ep)(kd a b v:Int)(C: -9223372036854775808<=a/\a<=9223372036854775807)(hbb: -9223372036854775808<=b/\b<=9223372036854775807)(hv: -2147483648<=v/\v<=2147483647)(K:j<4398046511104)(d:kd=4):
  Calls prog 13 #[.pointer (N ⟨p,0,Y⟩),.agg #[I J kd,I J a,I J b,I S v]] w fun e w'=>e=.returned (.bool true)/\ku w w' B p c ep m ns j kd:=by
 have l:=h.size
 have f:D w.1.size w (w.alloc (.cells #[I J kd,I J a,I J b,I S v] 33)):=(O _ _).alloc (Q _) _
 have n:=zm w (.cells #[I J kd,I J a,I J b,I S v] 33)
 have q:=h.later f
 obtain⟨X,Z,o2,o3,-⟩:=zc n
 have ol:=za n
 have i:=zd (Bel.of f l)
 have r:=zd f
 have u:=zd q
 have H:=zd h
 clear f n q h
 have L:(kd==1)=false:=by subst d;rfl
 have M:(kd==2)=false:=by subst d;rfl
 have R:(kd==3)=false:=by subst d;rfl
 have T:(kd==4)=true:=by subst d;rfl
 have U:(kd==5)=false:=by subst d;rfl
 have W:(kd==6)=false:=by subst d;rfl
 have g:¬kd=1:=by omega
 have s:=zd (Q8 (ud u) F G k kd a b v C (by omega))
 clear d
 go_enter func13,ntmps13
 go_wp2_with(first|(go_at_call 41;refine(ud s).mono ?_;rintro e V ⟨rfl,o⟩;have t:=zd o;clear o))
 go_ret
 obtain⟨m',x,y,z⟩:=ud t
 exact⟨rfl,m',m',ns,x,qP.same m' ns,y.mono (Nat.le_succ j),(ud i).trans z,fun e=>absurd e g,fun _=>rfl⟩
theorem zib{w:A}{B p:Nat}{c:Cf}{ep:Int}{m:MS}{ns:List Nm}{j:Nat}(h:vF w B p c ep m ns j)(F:c.ok)(G:c.fits)(k:xh ep)(kd a b v:Int)(C: -9223372036854775808<=a/\a<=9223372036854775807)(hbb: -9223372036854775808<=b/\b<=9223372036854775807)(hv: -2147483648<=v/\v<=2147483647)(K:j<4398046511104)(d:kd=5):
  Calls prog 13 #[.pointer (N ⟨p,0,Y⟩),.agg #[I J kd,I J a,I J b,I S v]] w fun e w'=>e=.returned (.bool true)/\ku w w' B p c ep m ns j kd:=by
 have l:=h.size
 have f:D w.1.size w (w.alloc (.cells #[I J kd,I J a,I J b,I S v] 33)):=(O _ _).alloc (Q _) _
 have n:=zm w (.cells #[I J kd,I J a,I J b,I S v] 33)
 have q:=h.later f
 obtain⟨X,Z,o2,o3,-⟩:=zc n
 have ol:=za n
 have i:=zd (Bel.of f l)
 have r:=zd f
 have u:=zd q
 have H:=zd h
 clear f n q h
 have L:(kd==1)=false:=by subst d;rfl
 have M:(kd==2)=false:=by subst d;rfl
 have R:(kd==3)=false:=by subst d;rfl
 have T:(kd==4)=false:=by subst d;rfl
 have U:(kd==5)=true:=by subst d;rfl
 have W:(kd==6)=false:=by subst d;rfl
 have g:¬kd=1:=by omega
 have s:=zd (Q8 (ud u) F G k kd a b v C (by omega))
 clear d
 go_enter func13,ntmps13
 go_wp2_with(first|(go_at_call 41;refine(ud s).mono ?_;rintro e V ⟨rfl,o⟩;have t:=zd o;clear o))
 go_ret
 obtain⟨m',x,y,z⟩:=ud t
 exact⟨rfl,m',m',ns,x,qP.same m' ns,y.mono (Nat.le_succ j),(ud i).trans z,fun e=>absurd e g,fun _=>rfl⟩
theorem zic{w:A}{B p:Nat}{c:Cf}{ep:Int}{m:MS}{ns:List Nm}{j:Nat}(z:vF w B p c ep m ns j)(R:c.ok)(hf:c.fits)(q:xh ep)(kd a b v:Int)(ha: -9223372036854775808<=a/\a<=9223372036854775807)(hbb: -9223372036854775808<=b/\b<=9223372036854775807)(hv: -2147483648<=v/\v<=2147483647)(hj:j<4398046511104)(d:kd=6):
  Calls prog 13 #[.pointer (N ⟨p,0,Y⟩),.agg #[I J kd,I J a,I J b,I S v]] w fun e w'=>e=.returned (.bool true)/\ku w w' B p c ep m ns j kd:=by
 have a1:=z.size
 have i:D w.1.size w (w.alloc (.cells #[I J kd,I J a,I J b,I S v] 33)):=(O _ _).alloc (Q _) _
 have q0:=zm w (.cells #[I J kd,I J a,I J b,I S v] 33)
 have hX:=z.later i
 obtain⟨o0,o1,o2,o3,-⟩:=zc q0
 have ol:=za q0
 have o:=zd (Bel.of i a1)
 have a4:=zd i
 have HX:=zd hX
 have HS:=zd z
 clear i q0 hX z
 have k1:(kd==1)=false:=by subst d;rfl
 have k2:(kd==2)=false:=by subst d;rfl
 have k3:(kd==3)=false:=by subst d;rfl
 have k4:(kd==4)=false:=by subst d;rfl
 have k5:(kd==5)=false:=by subst d;rfl
 have k6:(kd==6)=true:=by subst d;rfl
 have k:¬kd=1:=by omega
 have a5:=R.sl
 obtain⟨r,r0,r1,PK⟩:=xS a c.s ha (by omega)
 have G:=fun W=>zd (PK W)
 obtain⟨s9,F,a0,h,a7,-,a3,-⟩:=ud HX
 obtain⟨-,x2,-,-,-,-,-,-,u,-⟩:=h.cells
 have xl:=h.lt
 rw[a0]at x2 u xl
 obtain⟨ka,kc,l⟩:=zS h.krow
 rw[zH]at l
 rw[l]at u
 clear h l d PK
 have HT:=zd (Vp ((ud HX).later (O _ _).drew) R hf q r ⟨r0,r1⟩ hj)
 go_enter func13,ntmps13
 go_wp2_with fail
 generalize(w.alloc (.cells #[I J kd,I J a,I J b,I S v] 33))=X at*
 refine xo 9 (by kernel_rfl) (by kernel_rfl) ?_
 simp only[List.take_succ_cons,List.take_zero,List.drop_succ_cons,List.drop_zero]
 repeat still_step
 still_call (ud (G _))
 refine wpStill_nil ?_
 go_wp2_with fail
 refine(ud HT).mono ?_
 rintro e V ⟨rfl,hP⟩
 have HP:=zd hP
 clear hP
 obtain⟨m',H,y,L,M⟩:=ud HP
 have K:=y
 obtain⟨s8,C,Z,g,a6,-,a2,-⟩:=y
 have x:=(g.cells).2.2.2.2.2.2.2.2.1
 have yl:=g.lt
 obtain⟨kb,a8,n⟩:=zS g.krow
 rw[zH]at n
 rw[n]at x
 rw[Z]at x yl
 clear g n
 by_cases f:m'.num=m.num
 ·have T:((C:Int)==(F:Int))=true:=by simp;omega
  have t:(C:Int)=F:=by omega
  clear f M
  go_wp2_with fail
  go_ret
  obtain⟨m',H,y,L,M⟩:=ud HP
  exact⟨rfl,m',m',ns,H,qP.same m' ns,y,((ud o).drew).trans L,fun e=>absurd e k,fun _=>rfl⟩
 ·have T:((C:Int)==(F:Int))=false:=by simp;omega
  have t:¬(C:Int)=F:=by omega
  have HE:=zd (Q8 K R hf q 4 0 0 0 (by omega) (by omega))
  clear f M
  go_wp2_with(first|(go_at_call 41;refine(ud HE).mono ?_;rintro e U ⟨rfl,hQ⟩;have HQ:=zd hQ;clear hQ))
  go_ret
  obtain⟨m2,g1,g2,g3⟩:=ud HQ
  exact⟨rfl,m',m2,ns,H,g1,g2,((ud o).drew).trans (L.trans g3),fun e=>absurd e k,fun _=>rfl⟩
theorem zid{w:A}{B p:Nat}{c:Cf}{ep:Int}{m:MS}{ns:List Nm}{j:Nat}(g:vF w B p c ep m ns j)(u:c.ok)(x:c.fits)(r:xh ep)(kd a b v:Int)(t: -9223372036854775808<=a/\a<=9223372036854775807)(hbb: -9223372036854775808<=b/\b<=9223372036854775807)(hv: -2147483648<=v/\v<=2147483647)(y:j<4398046511104)(i:kd<1\/6<kd):
  Calls prog 13 #[.pointer (N ⟨p,0,Y⟩),.agg #[I J kd,I J a,I J b,I S v]] w fun e w'=>e=.returned (.bool true)/\ku w w' B p c ep m ns j kd:=by
 have k:=g.size
 have d:D w.1.size w (w.alloc (.cells #[I J kd,I J a,I J b,I S v] 33)):=(O _ _).alloc (Q _) _
 have l:=zm w (.cells #[I J kd,I J a,I J b,I S v] 33)
 have n:=g.later d
 obtain⟨L,M,R,T,-⟩:=zc l
 have U:=za l
 have h:=zd (Bel.of d k)
 have o:=zd d
 have q:=zd n
 have s:=zd g
 clear d l n g
 have z:(kd==1)=false:=by simp;omega
 have C:(kd==2)=false:=by simp;omega
 have F:(kd==3)=false:=by simp;omega
 have G:(kd==4)=false:=by simp;omega
 have H:(kd==5)=false:=by simp;omega
 have K:(kd==6)=false:=by simp;omega
 have f:¬kd=1:=by omega
 clear i
 go_enter func13,ntmps13
 go_wp2_with fail
 go_ret
 exact⟨rfl,m,m,ns,qP.same m ns,qP.same m ns,(ud q).mono (Nat.le_succ j),ud h,fun e=>absurd e f,fun _=>rfl⟩
theorem zdF{w:A}{B p:Nat}{c:Cf}{ep:Int}{m:MS}{ns:List Nm}{j:Nat}(k:vF w B p c ep m ns j)(g:c.ok)(h:c.fits)(d:xh ep)(kd a b v:Int)(f: -9223372036854775808<=a/\a<=9223372036854775807)(hbb: -9223372036854775808<=b/\b<=9223372036854775807)(hv: -2147483648<=v/\v<=2147483647)(i:j<4398046511104):
  Calls prog 13 #[.pointer (N ⟨p,0,Y⟩),.agg #[I J kd,I J a,I J b,I S v]] w fun e w'=>e=.returned (.bool true)/\ku w w' B p c ep m ns j kd:=by
 by_cases l:kd=1
 ·exact zhX k g h d kd a b v f hbb hv i l
 by_cases n:kd=2
 ·exact zhY k g h d kd a b v f hbb hv i n
 by_cases o:kd=3
 ·exact zhZ k g h d kd a b v f hbb hv i o
 by_cases q:kd=4
 ·exact zia k g h d kd a b v f hbb hv i q
 by_cases r:kd=5
 ·exact zib k g h d kd a b v f hbb hv i r
 by_cases s:kd=6
 ·exact zic k g h d kd a b v f hbb hv i s
 exact zid k g h d kd a b v f hbb hv i (by omega)
def zhG(w:A)(e:Ending)(w':A):Prop:=∃(c:Cf) (p:Nat),c.ok/\c.fits/\e=.returned (.pointer (N ⟨p,0,Y⟩))/\vF w' w.1.size p c 1 ⟨0,[],[],0,[],[]⟩ [] 0/\D w.1.size w w'
theorem zjc{a b j:Nat}(d:a=b+2)(c:a<=j)(e:foot (b+1) (.slice Y 0 0) j):False:=by
 rcases e with e|e
 ·omega
 ·cases e
theorem zaW(s le la wi ke qu:Int)(a:Option Addr)(n cap:Nat)(F0 W0 K0:Nat->Int)(w:A)(f:ZR w)(h1: -9223372036854775808<=s/\s<=9223372036854775807)(h2: -9223372036854775808<=le/\le<=9223372036854775807)(h3: -9223372036854775808<=la/\la<=9223372036854775807)(h4: -9223372036854775808<=wi/\wi<=9223372036854775807)(h5: -9223372036854775808<=ke/\ke<=9223372036854775807)(h6: -9223372036854775808<=qu/\qu<=9223372036854775807)(ad:TS w a n F0 W0 K0)(hn:n<=140737488355328)(hF:∀i,i<n-> -9223372036854775808<=F0 i/\F0 i<=9223372036854775807)(hW:∀i,i<n-> -9223372036854775808<=W0 i/\W0 i<=9223372036854775807)(hK:∀i,i<n-> -9223372036854775808<=K0 i/\K0 i<=9223372036854775807):
  Calls prog 12 #[.agg #[I J s,I J le,I J la,I J wi,I J ke,I J qu,.slice a n cap]] w (zhG w):=by
 have a6:D w.1.size w (w.alloc (.cells #[I J s,I J le,I J la,I J wi,I J ke,I J qu,.slice a n cap] 27)):=(O _ _).alloc (Q _) _
 have q0:=zm w (.cells #[I J s,I J le,I J la,I J wi,I J ke,I J qu,.slice a n cap] 27)
 have Z:=fun W (hW:D w.1.size w W)=>zd (zcb W (jC f hW))
 have a2:=fun W (am:D w.1.size w W)=>zd (zat s le la wi ke qu a n cap F0 W0 K0 W h1 h2 h3 h4 h5 h6 (ad.below am) hn hF hW hK)
 have C:=zd a6
 have Q0:=zd q0
 have ao:=za q0
 clear a6 q0 h1 h2 h3 h4 h5 h6 ad hF hW hK
 go_enter func12,ntmps12
 go_wp2_with(first
  |(go_at_call 36;refine(ud (Z _ (ud C))).mono ?_;rintro e w1 ⟨rfl,L⟩;have x0:=(L.block _ ao).trans (ud Q0);obtain⟨r0,r1,r2,r3,r4,r5,r6,-⟩:=zc x0;have ar:=za x0;have t:=zd ((ud C).trans (L.mono (ud C).size));clear L x0 Z)
  |(go_at_call 37;refine(ud (a2 _ (ud t))).mono ?_;rintro e l ⟨c,g,H,hr,hf,rfl,ho,a7⟩;have HR:=zd hr;have HF:=zd hf;have G:=zd ho;have o:=zd ((ud t).trans (a7.mono (ud t).size));have ai:=zd (ud t).size;clear hr hf ho a7 a2 r0 r1 r2 r3 r4 r5 r6)
  |(go_at_call 38;refine(zda w.1.size _ (E (ud o).size (by rw[zL];omega))).mono ?_;rintro e w3 ⟨rfl,hD,u,V⟩;have y:=(u.block l.1.size (by rw[zL];omega)).trans (zm l (.cells #[I J c.s,I J c.le,I J c.la,I J c.wi,I J c.ke,I J c.qu,.slice (N ⟨g,0,Y⟩) c.n H] 27));obtain⟨s0,s1,s2,s3,s4,s5,s6,-⟩:=zc y;have aa:=za y;have U:=xm ((ud G).alloc (.cells #[I J c.s,I J c.le,I J c.la,I J c.wi,I J c.ke,I J c.qu,.slice (N ⟨g,0,Y⟩) c.n H] 27)) u;have X:w3.1.size=l.1.size+2:=(by rw[V,zL]);have a8:zx 111 113 w.1.size w3 (l.1.size+1) ZV (.slice Y 0 0):=(by rw[zL]at hD;exact hD);have a3:=zd (zau c (Zd (ud HR)) (N ⟨g,0,Y⟩) H w3 (TS.of_owns U));have HD:=zd a8;have a1:=zd y;have aj:=zd U;have a5:=zd X;have p:=zd ((ud o).trans (((O l.1.size l).alloc (Q _) (.cells #[I J c.s,I J c.le,I J c.la,I J c.wi,I J c.ke,I J c.qu,.slice (N ⟨g,0,Y⟩) c.n H] 27)).trans (u.mono (by rw[zL];omega))|>.mono (ud o).size));clear hD u V y U X a8)
  |(go_at_call 30;refine(ud a3).mono ?_;rintro e w4 ⟨g4,rfl,z,b⟩;have ab:=(b.block _ (za (ud a1))).trans (ud a1);have an:=(z.form (show 0<c.n from(Zd (ud HR)).n1));have B:∀j,(Value.slice (N ⟨g4,0,Y⟩) c.n c.n).ownBlock=N j->w3.1.size<=j:=(fun j v=>(z.lt j v).1);have a4:=zd (Vb c (Zd (ud HR)) (ud HF) (ud HR) (N ⟨g4,0,Y⟩) c.n w.1.size (l.1.size+1) (.slice Y 0 0) w4 (E (ud p).size b.size) ((ud HD).later b) (fun w' hk=>TS.of_owns (zk z hk (fun j v e=>zjc (ud a5) (B j v) e))) (jC f ((ud p).trans (b.mono (ud p).size))) (fun k e=>(by have h9:=f.lt;have h8:=(ud o).size;rcases e with e|e;(rw[e];omega);cases e)));have ae:=zd ab;have ak:=zd (xm (ud aj) b);have al:Hid (w3.1.size<=w4.1.size):=b.size;have a0:=zd ((ud p).trans (b.mono (ud p).size));clear z b ab an B a3 s0 s1 s2 s3 s4 s5 s6 aa)
  |(go_at_call 29;refine(ud a4).mono ?_;rintro e m ⟨i,a9,rfl,hM,ac,r⟩;have d:zo (fun k=>k=l.1.size+1) w4 m:=ac.mono (fun k _ e=>(by rcases e with e|e;exact e;cases e));have T:=d.heap (ud ae) (by omega);obtain⟨t0,t1,t2,t3,t4,t5,t6,-⟩:=zc T;have aq:=za T;have HM:=zd hM;have ag:=zd d;have af:=zd a9;have ah:Hid (∀k,zY m i k->k=l.1.size+1\/w4.1.size<=k):=(fun k hk=>(by rcases r k hk with(e|e)|e;exact .inl e;cases e;exact .inr e));clear a9;clear hM ac d r T a4))
 go_ret
 have hc:=Zd (ud HR)
 have d:=ud ag
 have V:=ud a5
 have X:=ud al
 have au:=(ud o).size
 have ap:m.ownsRow _ 80 3 (.slice (N ⟨g,0,Y⟩) c.n H) c.n (jn c.n c.F c.W c.K):=zk (ud ak) d (fun j v e=>by have:=((ud G).lt j v).2;omega)
 have hA:D m.1.size m (m.alloc (.cells #[.pointer (N ⟨i.x,0,Y⟩),.pointer (N ⟨l.1.size+1,0,Y⟩),I J c.s,I J c.le,I J c.la,I J c.wi,I J c.ke,I J c.qu,.slice (N ⟨g,0,Y⟩) c.n H,I J 0,.slice Y 0 0,.slice Y 0 0,.slice Y 0 0] 44)):=(O _ _).alloc (Q _) _
 have M:D w.1.size w m:=(ud a0).trans (d.below (ud a0).size (fun k e=>by omega))
 have r:=ud ah
 have R:=(ud HM).below hA
 refine⟨c,m.1.size,hc,ud HF,rfl,⟨⟨m.1.size,i,l.1.size+1,.slice (N ⟨g,0,Y⟩) c.n H,.slice Y 0 0,.slice Y 0 0,.slice Y 0 0⟩,0,rfl,⟨zm _ _,(ud HM).later hA,xm (kj ap (ud ai)) hA,World.ownsRow_nil _ _ _ _,World.ownsRow_nil _ _ _ _,World.ownsRow_nil _ _ _ _,M.size,fun j v=>?_,fun j v hm=>?_,(ud af).symm,f.lt⟩,rfl,SOk.new hc,Q _,Q _⟩,M.trans (hA.mono M.size)⟩
 ·rcases R.foot v with e|e
  ·rcases r j e with e|e<;>omega
  ·omega
 ·have h3:j<m.1.size->(j=l.1.size+1\/w4.1.size<=j)/\zY m i j:=fun hl=>by
   rcases R.foot hm with e|e
   ·exact⟨r j e,e⟩
   ·omega
  rcases v with e|e|e|e|e
  ·have e':j=m.1.size:=e
   rcases R.foot hm with h|h
   ·have:=(ud HM).foot_lt j h;omega
   ·obtain⟨q,txt,ns,hG⟩:=ud HM
    rw[e']at hm
    exact Z5 hG.at_ hA hm
  ·have h4:=((ud G).lt j e).2
   have h5:=d.size
   rcases(h3 (by omega)).1 with h|h<;>omega
  ·cases e
  ·cases e
  ·cases e
theorem vy.acts2{c:Cf}{ep:Int}{m m1 m':MS}{ns a:List Nm}(d:c.ok)(e:c.fits)(g:SOk c ep m ns.length)(h:vy c m ns)(f:ns.length+1<9223372036854775807)(b:qP c ep m ns m1 a)(i:qP c ep m1 a m' a):vy c m' a:=by
 have j:=b.nu
 exact(h.act d e g (by omega) b).act d e (b.ok d e g) (by omega) i
def zfo(w:A)(a:Nat)(e:Ending)(w':A):Prop:=∃(c:Cf) (p B:Nat) (m:MS) (ns:List Nm),c.ok/\c.fits/\e=.returned (.pointer (N ⟨p,0,Y⟩))/\w.1.size<=B/\vF w' B p c 1 m ns a/\vy c m ns/\D w.1.size w w'
theorem zbd(s le la wi ke qu:Int)(a:Option Addr)(n cap:Nat)(F0 W0 K0:Nat->Int)(sa:Option Addr)(h K:Nat)(G:Nat->Y4)(w:A)(v:ZR w)(h1: -9223372036854775808<=s/\s<=9223372036854775807)(h2: -9223372036854775808<=le/\le<=9223372036854775807)(h3: -9223372036854775808<=la/\la<=9223372036854775807)(h4: -9223372036854775808<=wi/\wi<=9223372036854775807)(h5: -9223372036854775808<=ke/\ke<=9223372036854775807)(h6: -9223372036854775808<=qu/\qu<=9223372036854775807)(a4:TS w a n F0 W0 K0)(hn:n<=140737488355328)(hF:∀i,i<n-> -9223372036854775808<=F0 i/\F0 i<=9223372036854775807)(hW:∀i,i<n-> -9223372036854775808<=W0 i/\W0 i<=9223372036854775807)(hK:∀i,i<n-> -9223372036854775808<=K0 i/\K0 i<=9223372036854775807)(Z:KS w sa h G)(aj:h<4398046511104)(hG:∀i,i<h->(G i).fits):
  Calls prog 16 #[.agg #[I J s,I J le,I J la,I J wi,I J ke,I J qu,.slice a n cap],.slice sa h K] w (zfo w h):=by
 have l:D w.1.size w (w.alloc (.cells #[I J s,I J le,I J la,I J wi,I J ke,I J qu,.slice a n cap] 27)):=(O _ _).alloc (Q _) _
 have q0:=zm w (.cells #[I J s,I J le,I J la,I J wi,I J ke,I J qu,.slice a n cap] 27)
 obtain⟨r0,r1,r2,r3,r4,r5,r6,-⟩:=zc q0
 have al:=za q0
 have H:=zd (zaW s le la wi ke qu a n cap F0 W0 K0 (w.alloc (.cells #[I J s,I J le,I J la,I J wi,I J ke,I J qu,.slice a n cap] 27)) (jC v l) h1 h2 h3 h4 h5 h6 (a4.below l) hn hF hW hK)
 clear v
 have x:=zd l
 have a8:=zd Z
 have HG:=zd hG
 clear l q0 h1 h2 h3 h4 h5 h6 a4 hF hW hK Z hG
 go_enter func16,ntmps16
 go_wp2_with fail
 generalize(w.alloc (.cells #[I J s,I J le,I J la,I J wi,I J ke,I J qu,.slice a n cap] 27))=X at*
 refine(ud H).mono ?_
 rintro e w1 ⟨c,p,hc,hf,rfl,f,T⟩
 have R:D w.1.size w w1:=(ud x).trans (T.mono (ud x).size)
 have a9:=zd f
 have a6:=zd R
 have ad:xh 1:=by unfold xh;omega
 have a5:w.1.size<=X.1.size:=(ud x).size
 clear f T R H r0 r1 r2 r3 r4 r5 r6
 go_wp2_with fail
 go_loopw [6,7] (fun y _ wr=>∃(t:Nat) (m:MS) (ns:List Nm),t<=h/\y=I J t/\vF wr X.1.size p c 1 m ns t/\vy c m ns/\D w.1.size w wr) (fun y _ _=>h-(intOf y).toNat)
 case atStart=>exact⟨0,_,[],Nat.zero_le _,rfl,ud a9,vy.start c 0,ud a6⟩
 case round=>
  obtain⟨t,m,ns,am,rfl,f,q,d⟩:=hrel
  have ak:(h:Int)<=4398046511104:=by omega
  by_cases a0:t<h
  ·have ai:(t:Int)<h:=by omega
   obtain⟨b,r,ag,k,U⟩:=ud a8 (by omega)
   subst ag
   obtain⟨g0,g1,g2,g3⟩:=U t a0
   have V:=ud HG t a0
   generalize G t=o at*
   obtain⟨kd,oa,ob,ov⟩:=o
   obtain⟨fa,fb,fv⟩:=V
   dsimp only at g0 g1 g2 g3 fa fb fv
   have y0:=(d.cell (p:=⟨b,r+t*4,Y⟩) k).trans g0
   have y1:=(d.cell (p:=⟨b,r+t*4+1,Y⟩) k).trans g1
   have y2:=(d.cell (p:=⟨b,r+t*4+2,Y⟩) k).trans g2
   have y3:=(d.cell (p:=⟨b,r+t*4+3,Y⟩) k).trans g3
   have an:=P k d.size
   have j:=zd (zdF f hc hf ad kd oa ob ov fa fb fv (by omega))
   have a7:=zd d
   obtain⟨s9,k9,af,ac,ae,a2,W,a1⟩:=f
   have F:=fun(m1 m':MS) (g:List Nm) (ha:qP c 1 m ns m1 g) (hb:qP c 1 m1 g m' g)=>zd (vy.acts2 hc hf a2 q (by omega) ha hb)
   clear U d g0 g1 g2 g3 ac a2 q ae af W a1
   go_wp2_with fail
   refine(ud j).mono ?_
   rintro e V2 ⟨rfl,hP⟩
   obtain⟨m1,m',g,hA,L,M,u,aa,ab⟩:=hP
   have B:=F m1 m' g hA L
   have C:=zd M
   have z:=zd ((ud a7).trans (u.bel.mono a5))
   clear M u hA L aa ab j y0 y1 y2 y3
   go_wp2_with fail
   go_roundw
   case rel=>exact⟨t+1,m',g,by omega,by go_num,ud C,ud B,ud z⟩
   case measure=>simp[intOf];omega
  ·have ah:decide ((t:Int)<h)=false:=by simp;omega
   have a3:t=h:=by omega
   have C:=zd f
   have z:=zd d
   have B:=zd q
   clear f d q
   go_wp2_with fail
   go_ret
   exact⟨c,p,_,m,ns,hc,hf,rfl,a5,a3▸ud C,ud B,ud z⟩
end Go.Proofs.YtndhpgciopcncaaGreatDoor
