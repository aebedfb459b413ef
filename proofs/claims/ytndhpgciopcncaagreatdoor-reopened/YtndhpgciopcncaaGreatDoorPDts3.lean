import Derived.Test.YtndhpgciopcncaaGreatDoorPStp3
import Derived.StillTactics
import Derived.Test.YtndhpgciopcncaaGreatDoorPRdr5
import Derived.Test.YtndhpgciopcncaaGreatDoorPCfd1
open Nat renaming le_trans → J
open Go.RowKit.Below renaming refl → E
open Nat renaming le_refl → Q
open Option renaming some → Y
open Nat renaming lt_of_lt_of_le → N
set_option linter.unusedVariables false
set_option maxRecDepth 20000
set_option maxHeartbeats 8000000
open Go.Proofs.Tryz
namespace Go.Proofs.YtndhpgciopcncaaGreatDoor
open Go.RowKit Go.Maps Go.Shelf
def Xy(w w':World)(B p:Nat)(c:Cf)(ep:Int)(m:MS)(ns:List Nm)(j:Nat)(f:RM->RM):Prop:=∃m',yL c ep m ns m' ns/\ZJ w' B p c ep m' ns j/\Bel B w w'/\jy c ep f m m'
theorem zgn{w:World}{B p:Nat}{c:Cf}{ep:Int}{m:MS}{ns:List Nm}{j k:Nat}(hs:J2 w B p c ep m ns j k)(hc:c.ok)(hf:c.fits)(az:xg ep)(kd a b v:Int)(i:Nat)(d:i<k)(r:Int)(aP:(k:Int)-1-r=i)(r0:0<=r/\r<k)(PK:∀W:World,Calls prog 31 #[I a,I k] W fun e w'=>e=.returned (I r)/\w'=W)(hj:j<=4398046511104)(aj:kd=5)(S:zD m.QL ⟨ep,(i:Int)+1⟩=none):
  Calls prog 41 #[(O p),.agg (kZz kd a b v)] w fun e w'=>e=.returned (.bool true)/\Xy w w' B p c ep m ns j (Jc kd ep ((i:Int)+1)):=by
 have x:=hs.size
 have au:Hid (jy c ep (Jc kd ep ((i:Int)+1)) m m):=zgO S
 obtain⟨⟨sp,si,sd,aT,aV,aU,aW⟩,rfl,h,hk,ho,aB,aC⟩:=hs
 dsimp only at*
 obtain⟨r0,r1⟩:=r0
 have aQ:B<=sp:=h.lo
 have an:=ho.ok.seg.u0 hc
 have aH:=ho.ok.seg.len400 hc
 have M:Below w.1.size w (w.alloc (.cells (kZz kd a b v) 33)):=(E _ _).alloc (Q _) _
 have q0:=zp w (.cells (kZz kd a b v) 33)
 have o:=h.later M
 obtain⟨g,gc,T,aA,P,R⟩:=yt o.krow (j:=i) (by rw[zK];exact d)
 obtain⟨l,ay,t,ai,a1,aD⟩:=ZH o.urow (j:=i) (by rw[xd];exact d)
 rw[zK]at T
 rw[xd]at t
 dsimp only at T t
 subst T
 subst t
 have s:(Zn ep k)[i]'(by rw[zK];exact d)=⟨ep,(i:Int)+1⟩:=(List.getElem?_eq_some_iff.1 (vw ep k i d)).2
 have af:(yK ep m.QL k)[i]'(by rw[xd];exact d)=jN m.QL ⟨ep,(i:Int)+1⟩:=(List.getElem?_eq_some_iff.1 (vV ep m.QL k i d)).2
 rw[s]at P R
 rw[af]at a1
 dsimp only at P R
 have u:=(o.setUnt (g:=l) (cap:=ay) (by rw[xd]) i 0).later (E _ _).drew
 obtain⟨x0,-,-,-,-,-,-,-,ap,aq⟩:=o.cells
 dsimp only at x0 ap aq
 have xl:=o.lt
 dsimp only at xl
 obtain⟨o0,o1,-⟩:=zc q0
 have ol:=zd q0
 have ak:¬l=sp:=zr o.head o.urow (by decide) l rfl
 have aI:¬sp=l:=fun e=>ak e.symm
 have al:¬l=g:=fun e=>xx o.urow o.krow (by decide) l rfl (by simp[Value.ownBlock,e])
 have aJ:¬g=l:=fun e=>al e.symm
 have aO:w.1.size<(w.alloc (.cells (kZz kd a b v) 33)).1.size:=ol
 have am:¬l=w.1.size:=fun e=>by have:=h.foot_lt l (.inr (.inr (.inr (.inr rfl))));omega
 have K:¬w.1.size=l:=fun e=>am e.symm
 have e1:IntKind.i64.wrap ((k:Int)-1)=(k:Int)-1:=by rw[IntKind.wrap_i64];omega
 have e2:IntKind.i64.wrap ((k:Int)-1-r)=i:=by rw[IntKind.wrap_i64];omega
 have aG:(i:Int)<k:=by omega
 have aL:((k:Int)==0)=false:=by simp;omega
 have H:=ze (qo u.mill hc ⟨an.1,by omega⟩ (by omega))
 have G:=ze u
 have Q0:=ze q0
 have ah:Bel B w (w.alloc (.cells (kZz kd a b v) 33)):=Bel.of M x
 have ar:=ze ah
 have HX:=ze o
 have av:=fun W=>ze (PK W)
 have HO:=ze ho
 have aE:B<=l:=(o.urow.lt l rfl).1
 clear h o M q0 u s af ah ho PK
 have aM:(kd==5)=true:=by simp[aj]
 have ao:jN m.QL ⟨ep,(i:Int)+1⟩=0:=MOk.unt_none S
 rw[ao]at a1
 clear aj
 go_enter func41,ntmps41
 go_wp2_with fail
 generalize(w.alloc (.cells (kZz kd a b v) 33))=X at*
 refine wp_region_still_lit (by kernel_rfl) (by kernel_rfl) ?_
 repeat still_step
 still_call (ud (av _))
 repeat still_step
 refine wpStill_nil ?_
 go_wp2_with fail
 refine(ud H).mono ?_
 rintro e C ⟨rfl,F⟩
 have A:=ze F
 have aS:w.1.size<C.1.size:=N ol (J (Nat.le_of_eq (Xu X l i (I 0)).symm) F.size)
 have p0:=(F.cell (p:=(U w.1.size 0)) (by rw[Xu];exact ol)).trans ((YH (i:=i) (v:=I 0) K).trans o0)
 clear F H
 go_wp2_with fail
 have n:=((ud G).later (ud A)).later ((E C.1.size C).alloc (Q _) (.cells (mZz c m ep) 37))
 have ac:Bel B w (C.alloc (.cells (mZz c m ep) 37)):=by
  have k1:=(Bel.unt (i:=i) (ud HX).urow (I 0)).drew
  have k2:=(ud ar).trans k1
  have k3:=k2.trans (Bel.of (ud A) (J x k2.size))
  exact k3.alloc (J x k3.size) _
 have ae:=zp C (.cells (mZz c m ep) 37)
 have D:C.1[w.1.size]?=Y (.cells (kZz kd a b v) 33 (0,0)):=((ud A).block _ (by rw[Xu];exact ol)).trans ((Qn K).trans (ud Q0))
 have ad:=(Below.heap_alloc _ (.cells (mZz c m ep) 37) _ (zd D)).trans D
 have aN:¬w.1.size=C.1.size:=by have:=zd D;omega
 clear o0 o1 p0 x0 ap aq P R a1 aD aA ai xl D A G
 generalize(C.alloc (.cells (mZz c m ep) 37))=Z at*
 generalize aR:C.1.size=wb at*
 obtain⟨z0,-,-,-,-,-,-,-,z11,-⟩:=n.cells
 dsimp only at z0 z11
 obtain⟨gz,aK,V,aF,t0,t1⟩:=yt n.krow (j:=i) (by rw[zK];exact d)
 rw[zK]at V
 dsimp only at V
 cases V
 have s:(Zn ep k)[i]'(by rw[zK];exact d)=⟨ep,(i:Int)+1⟩:=(List.getElem?_eq_some_iff.1 (vw ep k i d)).2
 rw[s]at t0 t1
 dsimp only at t0 t1
 have zl:=n.lt
 dsimp only at zl
 have ax:=ze n
 have a7:=ze ac
 have a9:=ze ae
 have a8:=ze ad
 have aa:=(n.later (E _ _).drew).mill
 have HC:=ze (Je aa ⟨ep,(i:Int)+1⟩ ⟨az,by unfold xg;dsimp only;omega⟩ S)
 clear aa n ac ae ad s
 refine xK 11 (by kernel_rfl) (by kernel_rfl) ?_
 simp only[List.take_succ_cons,List.take_zero,List.drop_succ_cons,List.drop_zero]
 repeat still_step
 refine wpStill_nil ?_
 go_wp2_with(first
  |(go_at_call 21;refine(ud HC).mono ?_;rintro e V2 ⟨rfl,ag⟩;have z:Below Z.1.size Z V2:=Vm ag;have q:=(ud ax).later z;have s0:=(q.cells).1;dsimp only at s0;have sl:=q.lt;dsimp only at sl;have a6:=ze ((z.block _ (zd (ud a9))).trans (ud a9));have a4:=ze ((z.block _ (zd (ud a8))).trans (ud a8));have a5:=ze (qo q.mill hc ⟨an.1,by omega⟩ (by omega));have aw:=ze q;have a2:=ze ((ud a7).trans (Bel.of z (J x (ud a7).size)));clear ag z q)
  |(go_at_call 15;refine(ud a5).mono ?_;rintro e V3 ⟨rfl,f⟩;have y:=(f.block _ (zd (ud a6))).trans (ud a6);have a0:=(f.block _ (zd (ud a4))).trans (ud a4);obtain⟨w0,w1,-⟩:=zc y;have w2:V3.cell? (U wb 2)=Y (I (Qa (yn (zJ m.L) c.qu))):=(by rw[xH y];rfl);obtain⟨-,-,-,w3,w4,w5,w6,w7,-⟩:=zc y;have wl:=zd y;obtain⟨p0,-⟩:=zc a0;have pl:=zd a0;have a3:=ze f;clear f y a0))
 go_ret
 have f:=(ud a3).alloc (ud a3).size (.cells (mZz c m ep) 37)
 have ab:=(ud aw).later f
 have e0:(yK ep m.QL k).set i 0=yK ep m.QL k:=zbQ k i ao
 rw[e0]at ab
 exact⟨rfl,m,yL.same m ns,⟨_,k,rfl,ab,hk,ud HO,aB,aC⟩,(ud a2).trans (Bel.of f (J x (ud a2).size)),ud au⟩
theorem zgm{w:World}{B p:Nat}{c:Cf}{ep:Int}{m:MS}{ns:List Nm}{j k:Nat}(hs:J2 w B p c ep m ns j k)(hc:c.ok)(hf:c.fits)(az:xg ep)(kd a b v:Int)(i:Nat)(d:i<k)(r:Int)(aP:(k:Int)-1-r=i)(r0:0<=r/\r<k)(PK:∀W:World,Calls prog 31 #[I a,I k] W fun e w'=>e=.returned (I r)/\w'=W)(hj:j<=4398046511104)(aj:¬kd=5)(S:zD m.QL ⟨ep,(i:Int)+1⟩=none):
  Calls prog 41 #[(O p),.agg (kZz kd a b v)] w fun e w'=>e=.returned (.bool true)/\Xy w w' B p c ep m ns j (Jc kd ep ((i:Int)+1)):=by
 have x:=hs.size
 have au:Hid (jy c ep (Jc kd ep ((i:Int)+1)) m m):=zgO S
 obtain⟨⟨sp,si,sd,aT,aV,aU,aW⟩,rfl,h,hk,ho,aB,aC⟩:=hs
 dsimp only at*
 obtain⟨r0,r1⟩:=r0
 have aQ:B<=sp:=h.lo
 have an:=ho.ok.seg.u0 hc
 have aH:=ho.ok.seg.len400 hc
 have M:Below w.1.size w (w.alloc (.cells (kZz kd a b v) 33)):=(E _ _).alloc (Q _) _
 have q0:=zp w (.cells (kZz kd a b v) 33)
 have o:=h.later M
 obtain⟨g,gc,T,aA,P,R⟩:=yt o.krow (j:=i) (by rw[zK];exact d)
 obtain⟨l,ay,t,ai,a1,aD⟩:=ZH o.urow (j:=i) (by rw[xd];exact d)
 rw[zK]at T
 rw[xd]at t
 dsimp only at T t
 subst T
 subst t
 have s:(Zn ep k)[i]'(by rw[zK];exact d)=⟨ep,(i:Int)+1⟩:=(List.getElem?_eq_some_iff.1 (vw ep k i d)).2
 have af:(yK ep m.QL k)[i]'(by rw[xd];exact d)=jN m.QL ⟨ep,(i:Int)+1⟩:=(List.getElem?_eq_some_iff.1 (vV ep m.QL k i d)).2
 rw[s]at P R
 rw[af]at a1
 dsimp only at P R
 have u:=(o.setUnt (g:=l) (cap:=ay) (by rw[xd]) i 0).later (E _ _).drew
 obtain⟨x0,-,-,-,-,-,-,-,ap,aq⟩:=o.cells
 dsimp only at x0 ap aq
 have xl:=o.lt
 dsimp only at xl
 obtain⟨o0,o1,-⟩:=zc q0
 have ol:=zd q0
 have ak:¬l=sp:=zr o.head o.urow (by decide) l rfl
 have aI:¬sp=l:=fun e=>ak e.symm
 have al:¬l=g:=fun e=>xx o.urow o.krow (by decide) l rfl (by simp[Value.ownBlock,e])
 have aJ:¬g=l:=fun e=>al e.symm
 have aO:w.1.size<(w.alloc (.cells (kZz kd a b v) 33)).1.size:=ol
 have am:¬l=w.1.size:=fun e=>by have:=h.foot_lt l (.inr (.inr (.inr (.inr rfl))));omega
 have K:¬w.1.size=l:=fun e=>am e.symm
 have e1:IntKind.i64.wrap ((k:Int)-1)=(k:Int)-1:=by rw[IntKind.wrap_i64];omega
 have e2:IntKind.i64.wrap ((k:Int)-1-r)=i:=by rw[IntKind.wrap_i64];omega
 have aG:(i:Int)<k:=by omega
 have aL:((k:Int)==0)=false:=by simp;omega
 have H:=ze (qo u.mill hc ⟨an.1,by omega⟩ (by omega))
 have G:=ze u
 have Q0:=ze q0
 have ah:Bel B w (w.alloc (.cells (kZz kd a b v) 33)):=Bel.of M x
 have ar:=ze ah
 have HX:=ze o
 have av:=fun W=>ze (PK W)
 have HO:=ze ho
 have aE:B<=l:=(o.urow.lt l rfl).1
 clear h o M q0 u s af ah ho PK
 have aM:(kd==5)=false:=by simp[aj]
 have ao:jN m.QL ⟨ep,(i:Int)+1⟩=0:=MOk.unt_none S
 rw[ao]at a1
 clear aj
 go_enter func41,ntmps41
 go_wp2_with fail
 generalize(w.alloc (.cells (kZz kd a b v) 33))=X at*
 refine wp_region_still_lit (by kernel_rfl) (by kernel_rfl) ?_
 repeat still_step
 still_call (ud (av _))
 repeat still_step
 refine wpStill_nil ?_
 go_wp2_with fail
 refine(ud H).mono ?_
 rintro e C ⟨rfl,F⟩
 have A:=ze F
 have aS:w.1.size<C.1.size:=N ol (J (Nat.le_of_eq (Xu X l i (I 0)).symm) F.size)
 have p0:=(F.cell (p:=(U w.1.size 0)) (by rw[Xu];exact ol)).trans ((YH (i:=i) (v:=I 0) K).trans o0)
 clear F H
 go_wp2_with fail
 have n:=((ud G).later (ud A)).later ((E C.1.size C).alloc (Q _) (.cells (mZz c m ep) 37))
 have ac:Bel B w (C.alloc (.cells (mZz c m ep) 37)):=by
  have k1:=(Bel.unt (i:=i) (ud HX).urow (I 0)).drew
  have k2:=(ud ar).trans k1
  have k3:=k2.trans (Bel.of (ud A) (J x k2.size))
  exact k3.alloc (J x k3.size) _
 have ae:=zp C (.cells (mZz c m ep) 37)
 have D:C.1[w.1.size]?=Y (.cells (kZz kd a b v) 33 (0,0)):=((ud A).block _ (by rw[Xu];exact ol)).trans ((Qn K).trans (ud Q0))
 have ad:=(Below.heap_alloc _ (.cells (mZz c m ep) 37) _ (zd D)).trans D
 have aN:¬w.1.size=C.1.size:=by have:=zd D;omega
 clear o0 o1 p0 x0 ap aq P R a1 aD aA ai xl D A G
 generalize(C.alloc (.cells (mZz c m ep) 37))=Z at*
 generalize aR:C.1.size=wb at*
 obtain⟨z0,-,-,-,-,-,-,-,z11,-⟩:=n.cells
 dsimp only at z0 z11
 obtain⟨gz,aK,V,aF,t0,t1⟩:=yt n.krow (j:=i) (by rw[zK];exact d)
 rw[zK]at V
 dsimp only at V
 cases V
 have s:(Zn ep k)[i]'(by rw[zK];exact d)=⟨ep,(i:Int)+1⟩:=(List.getElem?_eq_some_iff.1 (vw ep k i d)).2
 rw[s]at t0 t1
 dsimp only at t0 t1
 have zl:=n.lt
 dsimp only at zl
 have ax:=ze n
 have a7:=ze ac
 have a9:=ze ae
 have a8:=ze ad
 have aa:=(n.later (E _ _).drew).mill
 have HC:=ze (XH aa ⟨ep,(i:Int)+1⟩ ⟨az,by unfold xg;dsimp only;omega⟩ S)
 clear aa n ac ae ad s
 refine xK 11 (by kernel_rfl) (by kernel_rfl) ?_
 simp only[List.take_succ_cons,List.take_zero,List.drop_succ_cons,List.drop_zero]
 repeat still_step
 refine wpStill_nil ?_
 go_wp2_with(first
  |(go_at_call 20;refine(ud HC).mono ?_;rintro e V2 ⟨rfl,ag⟩;have z:Below Z.1.size Z V2:=Vm ag;have q:=(ud ax).later z;have s0:=(q.cells).1;dsimp only at s0;have sl:=q.lt;dsimp only at sl;have a6:=ze ((z.block _ (zd (ud a9))).trans (ud a9));have a4:=ze ((z.block _ (zd (ud a8))).trans (ud a8));have a5:=ze (qo q.mill hc ⟨an.1,by omega⟩ (by omega));have aw:=ze q;have a2:=ze ((ud a7).trans (Bel.of z (J x (ud a7).size)));clear ag z q)
  |(go_at_call 15;refine(ud a5).mono ?_;rintro e V3 ⟨rfl,f⟩;have y:=(f.block _ (zd (ud a6))).trans (ud a6);have a0:=(f.block _ (zd (ud a4))).trans (ud a4);obtain⟨w0,w1,-⟩:=zc y;have w2:V3.cell? (U wb 2)=Y (I (Qa (yn (zJ m.L) c.qu))):=(by rw[xH y];rfl);obtain⟨-,-,-,w3,w4,w5,w6,w7,-⟩:=zc y;have wl:=zd y;obtain⟨p0,-⟩:=zc a0;have pl:=zd a0;have a3:=ze f;clear f y a0))
 go_ret
 have f:=(ud a3).alloc (ud a3).size (.cells (mZz c m ep) 37)
 have ab:=(ud aw).later f
 have e0:(yK ep m.QL k).set i 0=yK ep m.QL k:=zbQ k i ao
 rw[e0]at ab
 exact⟨rfl,m,yL.same m ns,⟨_,k,rfl,ab,hk,ud HO,aB,aC⟩,(ud a2).trans (Bel.of f (J x (ud a2).size)),ud au⟩
theorem zlq(s le la wi ke qu:Int)(a:Option Addr)(n cap:Nat)(T W0 K0:Nat->Int)(w:World)(f:Qe w)(h1: -9223372036854775808<=s/\s<=9223372036854775807)(h2: -9223372036854775808<=le/\le<=9223372036854775807)(h3: -9223372036854775808<=la/\la<=9223372036854775807)(h4: -9223372036854775808<=wi/\wi<=9223372036854775807)(h5: -9223372036854775808<=ke/\ke<=9223372036854775807)(h6: -9223372036854775808<=qu/\qu<=9223372036854775807)(ac:TS w a n T W0 K0)(hn:n<=140737488355328)(hF:∀i,i<n-> -9223372036854775808<=T i/\T i<=9223372036854775807)(hW:∀i,i<n-> -9223372036854775808<=W0 i/\W0 i<=9223372036854775807)(hK:∀i,i<n-> -9223372036854775808<=K0 i/\K0 i<=9223372036854775807):
  Calls prog 12 #[.agg #[I s,I le,I la,I wi,I ke,I qu,.slice a n cap]] w (zpv (znn s le la wi ke qu n T W0 K0) w):=by
 have a4:Below w.1.size w (w.alloc (.cells #[I s,I le,I la,I wi,I ke,I qu,.slice a n cap] 27)):=(E _ _).alloc (Q _) _
 have q0:=zp w (.cells #[I s,I le,I la,I wi,I ke,I qu,.slice a n cap] 27)
 have V:=fun W (hW:Below w.1.size w W)=>ze (zhi W (jv f hW))
 have a0:=fun W (am:Below w.1.size w W)=>ze (zkx s le la wi ke qu a n cap T W0 K0 W h1 h2 h3 h4 h5 h6 (ac.below am) hn hF hW hK)
 have B:=ze a4
 have Q0:=ze q0
 have ao:=zd q0
 clear a4 q0 h1 h2 h3 h4 h5 h6 ac hF hW hK
 go_enter func12,ntmps12
 go_wp2_with(first
  |(go_at_call 36;refine(ud (V _ (ud B))).mono ?_;rintro e w1 ⟨rfl,G⟩;have x0:=(G.block _ ao).trans (ud Q0);obtain⟨r0,r1,r2,r3,r4,r5,r6,-⟩:=zc x0;have ar:=zd x0;have t:=ze ((ud B).trans (G.mono (ud B).size));clear G x0 V)
  |(go_at_call 37;refine(ud (a0 _ (ud t))).mono ?_;rintro e l ⟨c,g,D,a6,hr,hf,rfl,ho,a5⟩;have ae:=ze a6;clear a6;have HR:=ze hr;have HF:=ze hf;have C:=ze ho;have o:=ze ((ud t).trans (a5.mono (ud t).size));have ai:=ze (ud t).size;clear hr hf ho a5 a0 r0 r1 r2 r3 r4 r5 r6)
  |(go_at_call 38;refine(zcG w.1.size _ (J (ud o).size (by rw[zN];omega))).mono ?_;rintro e w3 ⟨rfl,hD,u,R⟩;have y:=(u.block l.1.size (by rw[zN];omega)).trans (zp l (.cells (aZz c (Y (U g 0)) D) 27));obtain⟨s0,s1,s2,s3,s4,s5,s6,-⟩:=zc y;have a9:=zd y;have P:=zR ((ud C).alloc (.cells (aZz c (Y (U g 0)) D) 27)) u;have S:w3.1.size=l.1.size+2:=(by rw[R,zN]);have a7:zw 111 113 w.1.size w3 (l.1.size+1) Yi (.slice none 0 0):=(by rw[zN]at hD;exact hD);have a1:=ze (Qi c (vJ (ud HR)) (Y (U g 0)) D w3 (TS.of_owns P));have HD:=ze a7;have Z:=ze y;have aj:=ze P;have a3:=ze S;have p:=ze ((ud o).trans (((E l.1.size l).alloc (Q _) (.cells (aZz c (Y (U g 0)) D) 27)).trans (u.mono (by rw[zN];omega))|>.mono (ud o).size));clear hD u R y P S a7)
  |(go_at_call 30;refine(ud a1).mono ?_;rintro e w4 ⟨g4,rfl,z,b⟩;have aa:=(b.block _ (zd (ud Z))).trans (ud Z);have an:=(z.form (show 0<c.n from(vJ (ud HR)).n1));have A:∀j,(Value.slice (Y (U g4 0)) c.n c.n).ownBlock=Y j->w3.1.size<=j:=(fun j v=>(z.lt j v).1);have a2:=ze (zbl c (vJ (ud HR)) (ud HF) (ud HR) (Y (U g4 0)) c.n w.1.size (l.1.size+1) (.slice none 0 0) w4 (J (ud p).size b.size) ((ud HD).later b) (fun w' hk=>TS.of_owns (zi z hk (fun j v e=>zpw (ud a3) (A j v) e))) (jv f ((ud p).trans (b.mono (ud p).size))) (fun k e=>(by have h9:=f.lt;have h8:=(ud o).size;rcases e with e|e;(rw[e];omega);cases e)));have ad:=ze aa;have ak:=ze (zR (ud aj) b);have al:Hid (w3.1.size<=w4.1.size):=b.size;have X:=ze ((ud p).trans (b.mono (ud p).size));clear z b aa an A a1 s0 s1 s2 s3 s4 s5 s6 a9)
  |(go_at_call 29;refine(ud a2).mono ?_;rintro e m ⟨i,a8,rfl,hM,ab,r⟩;have d:zh (fun k=>k=l.1.size+1) w4 m:=ab.mono (fun k _ e=>(by rcases e with e|e;exact e;cases e));have M:=d.heap (ud ad) (by omega);obtain⟨t0,t1,t2,t3,t4,t5,t6,-⟩:=zc M;have aq:=zd M;have HM:=ze hM;have ag:=ze d;have af:=ze a8;have ah:Hid (∀k,zG m i k->k=l.1.size+1\/w4.1.size<=k):=(fun k hk=>(by rcases r k hk with(e|e)|e;exact .inl e;cases e;exact .inr e));clear a8;clear hM ab d r M a2))
 go_ret
 have hc:=vJ (ud HR)
 have d:=ud ag
 have R:=ud a3
 have S:=ud al
 have au:=(ud o).size
 have ap:m.ownsRow _ 80 3 (.slice (Y (U g 0)) c.n D) c.n (ZN c.n c.F c.W c.K):=zi (ud ak) d (fun j v e=>by have:=((ud C).lt j v).2;omega)
 have hA:Below m.1.size m (m.alloc (.cells #[(O i.x),(O (l.1.size+1)),I c.s,I c.le,I c.la,I c.wi,I c.ke,I c.qu,.slice (Y (U g 0)) c.n D,I 0,.slice none 0 0,.slice none 0 0,.slice none 0 0] 44)):=(E _ _).alloc (Q _) _
 have H:Below w.1.size w m:=(ud X).trans (d.below (ud X).size (fun k e=>by omega))
 have r:=ud ah
 have L:=(ud HM).below hA
 refine⟨c,m.1.size,ud ae,ud HR,ud HF,rfl,⟨⟨m.1.size,i,l.1.size+1,.slice (Y (U g 0)) c.n D,.slice none 0 0,.slice none 0 0,.slice none 0 0⟩,0,rfl,⟨zp _ _,(ud HM).later hA,zR (kq ap (ud ai)) hA,World.ownsRow_nil _ _ _ _,World.ownsRow_nil _ _ _ _,World.ownsRow_nil _ _ _ _,H.size,fun j v=>?_,fun j v hm=>?_,(ud af).symm,f.lt⟩,rfl,SOk.new hc,Q _,Q _⟩,H.trans (hA.mono H.size)⟩
 ·rcases L.foot v with e|e
  ·rcases r j e with e|e<;>omega
  ·omega
 ·have h3:j<m.1.size->(j=l.1.size+1\/w4.1.size<=j)/\zG m i j:=fun hl=>by
   rcases L.foot hm with e|e
   ·exact⟨r j e,e⟩
   ·omega
  rcases v with e|e|e|e|e
  ·have e':j=m.1.size:=e
   rcases L.foot hm with h|h
   ·have:=(ud HM).foot_lt j h;omega
   ·obtain⟨q,txt,ns,hG⟩:=ud HM
    rw[e']at hm
    exact XM hG.at_ hA hm
  ·have h4:=((ud C).lt j e).2
   have h5:=d.size
   rcases(h3 (by omega)).1 with h|h<;>omega
  ·cases e
  ·cases e
  ·cases e
theorem zdg{w:World}{B p:Nat}{c:Cf}{ep:Int}{m:MS}{ns:List Nm}{j k:Nat}(hs:J2 w B p c ep m ns j k)(V:c.ok)(hf:c.fits)(aH:xg ep)(kd a b v:Int)(i:Nat)(d:i<k)(r:Int)(b2:(k:Int)-1-r=i)(r0:0<=r/\r<k)(PK:∀W:World,Calls prog 31 #[I a,I k] W fun e w'=>e=.returned (I r)/\w'=W)(hj:j<=4398046511104)(a7:kd=5){g9:Lse}(M:zD m.QL ⟨ep,(i:Int)+1⟩=Y g9){x9:Tsk}(ab:zD m.TL g9.job=Y x9)(ay:g9.job.wf)(ax:0<=x9.ti/\x9.ti<=1000000):
  Calls prog 41 #[(O p),.agg (kZz kd a b v)] w fun e w'=>e=.returned (.bool true)/\Xy w w' B p c ep m ns j (Jc kd ep ((i:Int)+1)):=by
 have A:=hs.size
 have aC:Hid (jy c ep (Jc kd ep ((i:Int)+1)) m {m with TL:=xZ m.TL g9.job (x9.failed m.now),QL:=xa m.QL ⟨ep,(i:Int)+1⟩}):=zgM a7 M ab
 obtain⟨⟨sp,si,sd,b6,b8,b7,b9⟩,rfl,h,hk,ho,aJ,aK⟩:=hs
 dsimp only at*
 obtain⟨r0,r1⟩:=r0
 have b3:B<=sp:=h.lo
 have aL:=ho.ok.seg.u0 V
 have aR:=ho.ok.seg.len400 V
 have a2:Below w.1.size w (w.alloc (.cells (kZz kd a b v) 33)):=(E _ _).alloc (Q _) _
 have q0:=zp w (.cells (kZz kd a b v) 33)
 have q:=h.later a2
 obtain⟨g,gc,a5,aI,a3,a4⟩:=yt q.krow (j:=i) (by rw[zK];exact d)
 obtain⟨n,aG,x,aq,a9,aM⟩:=ZH q.urow (j:=i) (by rw[xd];exact d)
 rw[zK]at a5
 rw[xd]at x
 dsimp only at a5 x
 subst a5
 subst x
 have t:(Zn ep k)[i]'(by rw[zK];exact d)=⟨ep,(i:Int)+1⟩:=(List.getElem?_eq_some_iff.1 (vw ep k i d)).2
 have ao:(yK ep m.QL k)[i]'(by rw[xd];exact d)=jN m.QL ⟨ep,(i:Int)+1⟩:=(List.getElem?_eq_some_iff.1 (vV ep m.QL k i d)).2
 rw[t]at a3 a4
 rw[ao]at a9
 dsimp only at a3 a4
 have z:=(q.setUnt (g:=n) (cap:=aG) (by rw[xd]) i 0).later (E _ _).drew
 obtain⟨x0,-,-,-,-,-,-,-,az,aA⟩:=q.cells
 dsimp only at x0 az aA
 have xl:=q.lt
 dsimp only at xl
 obtain⟨o0,o1,-⟩:=zc q0
 have ol:=zd q0
 have au:¬n=sp:=zr q.head q.urow (by decide) n rfl
 have aS:¬sp=n:=fun e=>au e.symm
 have av:¬n=g:=fun e=>xx q.urow q.krow (by decide) n rfl (by simp[Value.ownBlock,e])
 have aT:¬g=n:=fun e=>av e.symm
 have b1:w.1.size<(w.alloc (.cells (kZz kd a b v) 33)).1.size:=ol
 have aw:¬n=w.1.size:=fun e=>by have:=h.foot_lt n (.inr (.inr (.inr (.inr rfl))));omega
 have a0:¬w.1.size=n:=fun e=>aw e.symm
 have e1:IntKind.i64.wrap ((k:Int)-1)=(k:Int)-1:=by rw[IntKind.wrap_i64];omega
 have e2:IntKind.i64.wrap ((k:Int)-1-r)=i:=by rw[IntKind.wrap_i64];omega
 have aQ:(i:Int)<k:=by omega
 have aY:((k:Int)==0)=false:=by simp;omega
 have S:=ze (qo z.mill V ⟨aL.1,by omega⟩ (by omega))
 have R:=ze z
 have Q0:=ze q0
 have ap:Bel B w (w.alloc (.cells (kZz kd a b v) 33)):=Bel.of a2 A
 have aB:=ze ap
 have HX:=ze q
 have aE:=fun W=>ze (PK W)
 have HO:=ze ho
 have aO:B<=n:=(q.urow.lt n rfl).1
 clear h q a2 q0 z t ao ap ho PK
 have aZ:(kd==5)=true:=by simp[a7]
 have a1:=(ud HO).ok.unt_pos M
 have aN:0<jN m.QL ⟨ep,(i:Int)+1⟩:=by rw[a1.1];exact a1.2
 generalize aX:jN m.QL ⟨ep,(i:Int)+1⟩=u at a9 aN
 have aV:=ze ay
 have aU:=ze ax
 clear a7
 go_enter func41,ntmps41
 go_wp2_with fail
 generalize(w.alloc (.cells (kZz kd a b v) 33))=X at*
 refine wp_region_still_lit (by kernel_rfl) (by kernel_rfl) ?_
 repeat still_step
 still_call (ud (aE _))
 repeat still_step
 refine wpStill_nil ?_
 go_wp2_with fail
 refine(ud S).mono ?_
 rintro e F ⟨rfl,K⟩
 have D:=ze K
 have b5:w.1.size<F.1.size:=N ol (J (Nat.le_of_eq (Xu X n i (I 0)).symm) K.size)
 have p0:=(K.cell (p:=(U w.1.size 0)) (by rw[Xu];exact ol)).trans ((YH (i:=i) (v:=I 0) a0).trans o0)
 clear K S
 go_wp2_with fail
 have o:=((ud R).later (ud D)).later ((E F.1.size F).alloc (Q _) (.cells (mZz c m ep) 37))
 have al:Bel B w (F.alloc (.cells (mZz c m ep) 37)):=by
  have k1:=(Bel.unt (i:=i) (ud HX).urow (I 0)).drew
  have k2:=(ud aB).trans k1
  have k3:=k2.trans (Bel.of (ud D) (J A k2.size))
  exact k3.alloc (J A k3.size) _
 have an:=zp F (.cells (mZz c m ep) 37)
 have H:F.1[w.1.size]?=Y (.cells (kZz kd a b v) 33 (0,0)):=((ud D).block _ (by rw[Xu];exact ol)).trans ((Qn a0).trans (ud Q0))
 have am:=(Below.heap_alloc _ (.cells (mZz c m ep) 37) _ (zd H)).trans H
 have b0:¬w.1.size=F.1.size:=by have:=zd H;omega
 clear o0 o1 p0 x0 az aA a3 a4 a9 aM aI aq xl H D R
 generalize(F.alloc (.cells (mZz c m ep) 37))=Z at*
 generalize b4:F.1.size=wb at*
 obtain⟨z0,-,-,-,-,-,-,-,z11,-⟩:=o.cells
 dsimp only at z0 z11
 obtain⟨gz,aW,a6,aP,t0,t1⟩:=yt o.krow (j:=i) (by rw[zK];exact d)
 rw[zK]at a6
 dsimp only at a6
 cases a6
 have t:(Zn ep k)[i]'(by rw[zK];exact d)=⟨ep,(i:Int)+1⟩:=(List.getElem?_eq_some_iff.1 (vw ep k i d)).2
 rw[t]at t0 t1
 dsimp only at t0 t1
 have zl:=o.lt
 dsimp only at zl
 have l:=ze o
 have ag:=ze al
 have ai:=ze an
 have ah:=ze am
 have aj:=(o.later (E _ _).drew).mill
 have HC:=ze (zkN aj ⟨ep,(i:Int)+1⟩ ⟨aH,by unfold xg;dsimp only;omega⟩ M ay ab (ud HO).ok.now ax (by have:=(ud HO).ok.t800 V;omega))
 have P:Hid (yL c ep m ns {m with TL:=xZ m.TL g9.job (x9.failed m.now),QL:=xa m.QL ⟨ep,(i:Int)+1⟩} ns):=yL.failed m ns _ g9 x9 M ab
 clear aj o al an am t
 refine xK 11 (by kernel_rfl) (by kernel_rfl) ?_
 simp only[List.take_succ_cons,List.take_zero,List.drop_succ_cons,List.drop_zero]
 repeat still_step
 refine wpStill_nil ?_
 go_wp2_with(first
  |(go_at_call 21;refine(ud HC).mono ?_;rintro e V2 ⟨rfl,hM,hK⟩;have y:Kx si Z V2:=((ud l).mill.below (E _ _).drew).trans hK;have s:=(ud l).putMill hM y;have s0:=(s.cells).1;dsimp only at s0;have sl:=s.lt;dsimp only at sl;have af:=ze (y.kept.heap (ud ai) ((ud l).mill.tag (ud ai) (by decide)));have ae:=ze (y.kept.heap (ud ah) ((ud l).mill.tag (ud ah) (by decide)));have G:=(ud P).ok V hf (ud HO);have aa:=(G.ok.seg.u0 V);have ar:=(G.ok.seg.len400 V);have T:=ze (qo s.mill V ⟨aa.1,Int.le_trans aa.2 (by decide)⟩ (J ar (by decide)));dsimp only at T;have aF:=ze s;have ac:=ze ((ud ag).trans (Bel.mill (ud l).mill y (J A (ud ag).size) (ud l).mlo));have aD:=ze G;clear hM hK y s G aa ar)
  |(go_at_call 15;refine(ud T).mono ?_;rintro e V3 ⟨rfl,f⟩;have C:=(f.block _ (zd (ud af))).trans (ud af);have a8:=(f.block _ (zd (ud ae))).trans (ud ae);obtain⟨w0,w1,-⟩:=zc C;have w2:V3.cell? (U wb 2)=Y (I (Qa (yn (zJ m.L) c.qu))):=(by rw[xH C];rfl);obtain⟨-,-,-,w3,w4,w5,w6,w7,-⟩:=zc C;have wl:=zd C;obtain⟨p0,-⟩:=zc a8;have pl:=zd a8;have ad:=ze f;clear f C a8))
 go_ret
 have f:=(ud ad).alloc (ud ad).size (.cells (mZz c m ep) 37)
 have ak:=(ud aF).later f
 have e0:yK ep (xa m.QL ⟨ep,(i:Int)+1⟩) k=(yK ep m.QL k).set i 0:=zad (ud HO).ok.nq k i
 rw[<-e0]at ak
 exact⟨rfl,_,ud P,⟨_,k,rfl,ak,hk,ud aD,aJ,aK⟩,(ud ac).trans (Bel.of f (J A (ud ac).size)),ud aC⟩
theorem zdj{w:World}{B p:Nat}{c:Cf}{ep:Int}{m:MS}{ns:List Nm}{j k:Nat}(hs:J2 w B p c ep m ns j k)(y:c.ok)(hf:c.fits)(aX:xg ep)(kd a b v:Int)(i:Nat)(f:i<k)(r:Int)(bj:(k:Int)-1-r=i)(r0:0<=r/\r<k)(PK:∀W:World,Calls prog 31 #[I a,I k] W fun e w'=>e=.returned (I r)/\w'=W)(hj:j<=4398046511104)(af:¬kd=5){g9:Lse}(s:zD m.QL ⟨ep,(i:Int)+1⟩=Y g9)(d:Sg)(ak al aj:Int)(M:zD m.TL g9.job=Y ⟨true,d,ak,al,aj⟩)(b4:g9.job.wf)(aF:inR c d)(k9:Nat)(ae:d.t=k9):
  Calls prog 41 #[(O p),.agg (kZz kd a b v)] w fun e w'=>e=.returned (.bool true)/\Xy w w' B p c ep m ns j (Jc kd ep ((i:Int)+1)):=by
 have H:=hs.size
 have aO:=ze af
 obtain⟨⟨sp,si,sd,bn,bp,bo,bq⟩,rfl,h,hk,ho,aZ,b0⟩:=hs
 dsimp only at*
 obtain⟨r0,r1⟩:=r0
 have bk:B<=sp:=h.lo
 have b1:=ho.ok.seg.u0 y
 have b9:=ho.ok.seg.len400 y
 have a9:Below w.1.size w (w.alloc (.cells (kZz kd a b v) 33)):=(E _ _).alloc (Q _) _
 have q0:=zp w (.cells (kZz kd a b v) 33)
 have x:=h.later a9
 obtain⟨g,gc,ac,aY,aa,ab⟩:=yt x.krow (j:=i) (by rw[zK];exact f)
 obtain⟨o,aT,D,aE,ah,b2⟩:=ZH x.urow (j:=i) (by rw[xd];exact f)
 rw[zK]at ac
 rw[xd]at D
 dsimp only at ac D
 subst ac
 subst D
 have C:(Zn ep k)[i]'(by rw[zK];exact f)=⟨ep,(i:Int)+1⟩:=(List.getElem?_eq_some_iff.1 (vw ep k i f)).2
 have aC:(yK ep m.QL k)[i]'(by rw[xd];exact f)=jN m.QL ⟨ep,(i:Int)+1⟩:=(List.getElem?_eq_some_iff.1 (vV ep m.QL k i f)).2
 rw[C]at aa ab
 rw[aC]at ah
 dsimp only at aa ab
 have G:=(x.setUnt (g:=o) (cap:=aT) (by rw[xd]) i 0).later (E _ _).drew
 obtain⟨x0,-,-,-,-,-,-,-,aK,aL⟩:=x.cells
 dsimp only at x0 aK aL
 have xl:=x.lt
 dsimp only at xl
 obtain⟨o0,o1,-⟩:=zc q0
 have ol:=zd q0
 have aH:¬o=sp:=zr x.head x.urow (by decide) o rfl
 have ba:¬sp=o:=fun e=>aH e.symm
 have aI:¬o=g:=fun e=>xx x.urow x.krow (by decide) o rfl (by simp[Value.ownBlock,e])
 have bb:¬g=o:=fun e=>aI e.symm
 have bi:w.1.size<(w.alloc (.cells (kZz kd a b v) 33)).1.size:=ol
 have aJ:¬o=w.1.size:=fun e=>by have:=h.foot_lt o (.inr (.inr (.inr (.inr rfl))));omega
 have a7:¬w.1.size=o:=fun e=>aJ e.symm
 have e1:IntKind.i64.wrap ((k:Int)-1)=(k:Int)-1:=by rw[IntKind.wrap_i64];omega
 have e2:IntKind.i64.wrap ((k:Int)-1-r)=i:=by rw[IntKind.wrap_i64];omega
 have b8:(i:Int)<k:=by omega
 have bf:((k:Int)==0)=false:=by simp;omega
 have a4:=ze (qo G.mill y ⟨b1.1,by omega⟩ (by omega))
 have a3:=ze G
 have Q0:=ze q0
 have aD:Bel B w (w.alloc (.cells (kZz kd a b v) 33)):=Bel.of a9 H
 have aM:=ze aD
 have HX:=ze x
 have aQ:=fun W=>ze (PK W)
 have HO:=ze ho
 have b6:B<=o:=(x.urow.lt o rfl).1
 clear h x a9 q0 G C aC aD ho PK
 have bg:(kd==5)=false:=by simp[af]
 have a8:=(ud HO).ok.unt_pos s
 have b3:0<jN m.QL ⟨ep,(i:Int)+1⟩:=by rw[a8.1];exact a8.2
 generalize bd:jN m.QL ⟨ep,(i:Int)+1⟩=u at ah b3
 have be:(xR m.L 2==xR m.L 2-1)=false:=by simp;omega
 have b5:¬xR m.L 2=xR m.L 2-1:=by omega
 clear af
 go_enter func41,ntmps41
 go_wp2_with fail
 generalize(w.alloc (.cells (kZz kd a b v) 33))=X at*
 refine wp_region_still_lit (by kernel_rfl) (by kernel_rfl) ?_
 repeat still_step
 still_call (ud (aQ _))
 repeat still_step
 refine wpStill_nil ?_
 go_wp2_with fail
 refine(ud a4).mono ?_
 rintro e R ⟨rfl,a1⟩
 have P:=ze a1
 have bm:w.1.size<R.1.size:=N ol (J (Nat.le_of_eq (Xu X o i (I 0)).symm) a1.size)
 have p0:=(a1.cell (p:=(U w.1.size 0)) (by rw[Xu];exact ol)).trans ((YH (i:=i) (v:=I 0) a7).trans o0)
 clear a1 a4
 go_wp2_with fail
 have q:=((ud a3).later (ud P)).later ((E R.1.size R).alloc (Q _) (.cells (mZz c m ep) 37))
 have az:Bel B w (R.alloc (.cells (mZz c m ep) 37)):=by
  have k1:=(Bel.unt (i:=i) (ud HX).urow (I 0)).drew
  have k2:=(ud aM).trans k1
  have k3:=k2.trans (Bel.of (ud P) (J H k2.size))
  exact k3.alloc (J H k3.size) _
 have aB:=zp R (.cells (mZz c m ep) 37)
 have T:R.1[w.1.size]?=Y (.cells (kZz kd a b v) 33 (0,0)):=((ud P).block _ (by rw[Xu];exact ol)).trans ((Qn a7).trans (ud Q0))
 have aA:=(Below.heap_alloc _ (.cells (mZz c m ep) 37) _ (zd T)).trans T
 have bh:¬w.1.size=R.1.size:=by have:=zd T;omega
 clear o0 o1 p0 x0 aK aL aa ab ah b2 aY aE xl T P a3
 generalize(R.alloc (.cells (mZz c m ep) 37))=Z at*
 generalize bl:R.1.size=wb at*
 obtain⟨z0,-,-,-,-,-,-,-,z11,-⟩:=q.cells
 dsimp only at z0 z11
 obtain⟨gz,bc,ad,b7,t0,t1⟩:=yt q.krow (j:=i) (by rw[zK];exact f)
 rw[zK]at ad
 dsimp only at ad
 cases ad
 have C:(Zn ep k)[i]'(by rw[zK];exact f)=⟨ep,(i:Int)+1⟩:=(List.getElem?_eq_some_iff.1 (vw ep k i f)).2
 rw[C]at t0 t1
 dsimp only at t0 t1
 have zl:=q.lt
 dsimp only at zl
 have n:=ze q
 have aq:=ze az
 have au:=ze aB
 have ar:=ze aA
 have av:=(q.later (E _ _).drew).mill
 obtain⟨V,a0,aw,ax⟩:=(ud HO).ok.rolled s M rfl (xv (xo c m.L d.sr d.wn k9))
 dsimp only at V a0 aw ax
 have aW:zJ (qT m.L d ⟨3,xv (xo c m.L d.sr d.wn k9)⟩)=zJ m.L:=by
  have:=a0 qV
  have e1:qV (stL m.L d)=2:=by unfold qV;rw[if_neg (by omega)]
  have e2:qV ⟨3,xv (xo c m.L d.sr d.wn k9)⟩=2:=by simp[qV]
  rw[e1,e2]at this
  unfold zJ;omega
 have aU:xR (qT m.L d ⟨3,xv (xo c m.L d.sr d.wn k9)⟩) 1=xR m.L 1:=by
  have:=a0 (zaN 1)
  have e1:zaN 1 (stL m.L d)=0:=by unfold zaN;rw[if_neg (by omega)]
  have e2:zaN 1 ⟨3,xv (xo c m.L d.sr d.wn k9)⟩=0:=by simp[zaN]
  rw[e1,e2]at this
  unfold xR;omega
 have a5:=V.seg.inr
 have a6:=V.seg.len400 y
 have HC:=ze (YL av y ⟨ep,(i:Int)+1⟩ ⟨aX,by unfold xg;dsimp only;omega⟩ s b4 d ak al aj M aF k9 ae (by omega) (by have:=(ud HO).gl y;omega) a5 (J a6 (by decide)) (ud HO).ok.now (by have:=(ud HO).ok.t800 y;omega))
 clear av q az aB aA C a5 a6 V a0 aw ax
 refine xK 11 (by kernel_rfl) (by kernel_rfl) ?_
 simp only[List.take_succ_cons,List.take_zero,List.drop_succ_cons,List.drop_zero]
 repeat still_step
 refine wpStill_nil ?_
 go_wp2_with(first
  |(go_at_call 20;refine(ud HC).mono ?_;rintro e V2 ⟨rfl,aS,hM,hK,hP⟩;have F:Kx si Z V2:=((ud n).mill.below (E _ _).drew).trans hK;have A:=(ud n).putMill hM F;have s0:=(A.cells).1;dsimp only at s0;have sl:=A.lt;dsimp only at sl;have ap:=ze (F.kept.heap (ud au) ((ud n).mill.tag (ud au) (by decide)));have ao:=ze (F.kept.heap (ud ar) ((ud n).mill.tag (ud ar) (by decide)));have aN:=ze (zgR (c:=c) (ep:=ep) (m:=m) (ud aO) s M ae hP);have a2:=ze (yL.rolled (c:=c) (ep:=ep) m ns _ g9 d ak al aj k9 aS s M ae hP);have S:=(ud a2).ok y hf (ud HO);have aV:=((ud HO).roll y hf s M _ hP).2;clear hP;have ai:=(S.ok.seg.u0 y);have aG:=(S.ok.seg.len400 y);have z:=ze (qo A.mill y ⟨ai.1,Int.le_trans ai.2 (by decide)⟩ (J aG (by decide)));unfold mZz at z;dsimp only at z;rw[aW,aU,aV]at z;have aR:=ze A;have am:=ze ((ud aq).trans (Bel.mill (ud n).mill F (J H (ud aq).size) (ud n).mlo));have aP:=ze S;clear hM hK F A S ai aG)
  |(go_at_call 15;refine(ud z).mono ?_;rintro e V3 ⟨rfl,l⟩;have K:=(l.block _ (zd (ud ap))).trans (ud ap);have ag:=(l.block _ (zd (ud ao))).trans (ud ao);obtain⟨w0,w1,-⟩:=zc K;have w2:V3.cell? (U wb 2)=Y (I (Qa (yn (zJ m.L) c.qu))):=(by rw[xH K];rfl);obtain⟨-,-,-,w3,w4,w5,w6,w7,-⟩:=zc K;have wl:=zd K;obtain⟨p0,-⟩:=zc ag;have pl:=zd ag;have an:=ze l;clear l K ag))
 go_ret
 have l:=(ud an).alloc (ud an).size (.cells #[I m.now,I (zJ m.L),I (Qa (yn (zJ m.L) c.qu)),I ep,I (xR m.L 1),I (xR m.L 2-1),I (xR (qT m.L d ⟨3,xv (xo c m.L d.sr d.wn k9)⟩) 3),I m.Gl.length] 37)
 have ay:=(ud aR).later l
 have e0:yK ep (xa m.QL ⟨ep,(i:Int)+1⟩) k=(yK ep m.QL k).set i 0:=zad (ud HO).ok.nq k i
 rw[<-e0]at ay
 exact⟨rfl,_,ud a2,⟨_,k,rfl,ay,hk,ud aP,aZ,b0⟩,(ud am).trans (Bel.of l (J H (ud am).size)),ud aN⟩
theorem zdi{w:World}{B p:Nat}{c:Cf}{ep:Int}{m:MS}{ns:List Nm}{j k:Nat}(hs:J2 w B p c ep m ns j k)(y:c.ok)(hf:c.fits)(aU:xg ep)(kd a b v:Int)(i:Nat)(d:i<k)(r:Int)(bf:(k:Int)-1-r=i)(r0:0<=r/\r<k)(PK:∀W:World,Calls prog 31 #[I a,I k] W fun e w'=>e=.returned (I r)/\w'=W)(hj:j<=4398046511104)(ae:¬kd=5){g9:Lse}(z:zD m.QL ⟨ep,(i:Int)+1⟩=Y g9)(s:Sg)(aj ak ai:Int)(T:zD m.TL g9.job=Y ⟨false,s,aj,ak,ai⟩)(b1:g9.job.wf)(aE:inR c s):
  Calls prog 41 #[(O p),.agg (kZz kd a b v)] w fun e w'=>e=.returned (.bool true)/\Xy w w' B p c ep m ns j (Jc kd ep ((i:Int)+1)):=by
 have F:=hs.size
 have aN:=ze ae
 obtain⟨⟨sp,si,sd,bj,bl,bk,bm⟩,rfl,h,hk,ho,aW,aX⟩:=hs
 dsimp only at*
 obtain⟨r0,r1⟩:=r0
 have bg:B<=sp:=h.lo
 have aY:=ho.ok.seg.u0 y
 have b5:=ho.ok.seg.len400 y
 have a9:Below w.1.size w (w.alloc (.cells (kZz kd a b v) 33)):=(E _ _).alloc (Q _) _
 have q0:=zp w (.cells (kZz kd a b v) 33)
 have q:=h.later a9
 obtain⟨g,gc,ac,aV,aa,ab⟩:=yt q.krow (j:=i) (by rw[zK];exact d)
 obtain⟨n,aS,A,aD,ag,aZ⟩:=ZH q.urow (j:=i) (by rw[xd];exact d)
 rw[zK]at ac
 rw[xd]at A
 dsimp only at ac A
 subst ac
 subst A
 have x:(Zn ep k)[i]'(by rw[zK];exact d)=⟨ep,(i:Int)+1⟩:=(List.getElem?_eq_some_iff.1 (vw ep k i d)).2
 have aB:(yK ep m.QL k)[i]'(by rw[xd];exact d)=jN m.QL ⟨ep,(i:Int)+1⟩:=(List.getElem?_eq_some_iff.1 (vV ep m.QL k i d)).2
 rw[x]at aa ab
 rw[aB]at ag
 dsimp only at aa ab
 have D:=(q.setUnt (g:=n) (cap:=aS) (by rw[xd]) i 0).later (E _ _).drew
 obtain⟨x0,-,-,-,-,-,-,-,aJ,aK⟩:=q.cells
 dsimp only at x0 aJ aK
 have xl:=q.lt
 dsimp only at xl
 obtain⟨o0,o1,-⟩:=zc q0
 have ol:=zd q0
 have aG:¬n=sp:=zr q.head q.urow (by decide) n rfl
 have b6:¬sp=n:=fun e=>aG e.symm
 have aH:¬n=g:=fun e=>xx q.urow q.krow (by decide) n rfl (by simp[Value.ownBlock,e])
 have b7:¬g=n:=fun e=>aH e.symm
 have be:w.1.size<(w.alloc (.cells (kZz kd a b v) 33)).1.size:=ol
 have aI:¬n=w.1.size:=fun e=>by have:=h.foot_lt n (.inr (.inr (.inr (.inr rfl))));omega
 have a5:¬w.1.size=n:=fun e=>aI e.symm
 have e1:IntKind.i64.wrap ((k:Int)-1)=(k:Int)-1:=by rw[IntKind.wrap_i64];omega
 have e2:IntKind.i64.wrap ((k:Int)-1-r)=i:=by rw[IntKind.wrap_i64];omega
 have b4:(i:Int)<k:=by omega
 have bb:((k:Int)==0)=false:=by simp;omega
 have a1:=ze (qo D.mill y ⟨aY.1,by omega⟩ (by omega))
 have a0:=ze D
 have Q0:=ze q0
 have aC:Bel B w (w.alloc (.cells (kZz kd a b v) 33)):=Bel.of a9 F
 have aL:=ze aC
 have HX:=ze q
 have aP:=fun W=>ze (PK W)
 have HO:=ze ho
 have b2:B<=n:=(q.urow.lt n rfl).1
 clear h q a9 q0 D x aB aC ho PK
 have bc:(kd==5)=false:=by simp[ae]
 have a6:=(ud HO).ok.unt_pos z
 have b0:0<jN m.QL ⟨ep,(i:Int)+1⟩:=by rw[a6.1];exact a6.2
 generalize ba:jN m.QL ⟨ep,(i:Int)+1⟩=u at ag b0
 clear ae
 go_enter func41,ntmps41
 go_wp2_with fail
 generalize(w.alloc (.cells (kZz kd a b v) 33))=X at*
 refine wp_region_still_lit (by kernel_rfl) (by kernel_rfl) ?_
 repeat still_step
 still_call (ud (aP _))
 repeat still_step
 refine wpStill_nil ?_
 go_wp2_with fail
 refine(ud a1).mono ?_
 rintro e K ⟨rfl,S⟩
 have H:=ze S
 have bi:w.1.size<K.1.size:=N ol (J (Nat.le_of_eq (Xu X n i (I 0)).symm) S.size)
 have p0:=(S.cell (p:=(U w.1.size 0)) (by rw[Xu];exact ol)).trans ((YH (i:=i) (v:=I 0) a5).trans o0)
 clear S a1
 go_wp2_with fail
 have o:=((ud a0).later (ud H)).later ((E K.1.size K).alloc (Q _) (.cells (mZz c m ep) 37))
 have ay:Bel B w (K.alloc (.cells (mZz c m ep) 37)):=by
  have k1:=(Bel.unt (i:=i) (ud HX).urow (I 0)).drew
  have k2:=(ud aL).trans k1
  have k3:=k2.trans (Bel.of (ud H) (J F k2.size))
  exact k3.alloc (J F k3.size) _
 have aA:=zp K (.cells (mZz c m ep) 37)
 have P:K.1[w.1.size]?=Y (.cells (kZz kd a b v) 33 (0,0)):=((ud H).block _ (by rw[Xu];exact ol)).trans ((Qn a5).trans (ud Q0))
 have az:=(Below.heap_alloc _ (.cells (mZz c m ep) 37) _ (zd P)).trans P
 have bd:¬w.1.size=K.1.size:=by have:=zd P;omega
 clear o0 o1 p0 x0 aJ aK aa ab ag aZ aV aD xl P H a0
 generalize(K.alloc (.cells (mZz c m ep) 37))=Z at*
 generalize bh:K.1.size=wb at*
 obtain⟨z0,-,-,-,-,-,-,-,z11,-⟩:=o.cells
 dsimp only at z0 z11
 obtain⟨gz,b8,ad,b3,t0,t1⟩:=yt o.krow (j:=i) (by rw[zK];exact d)
 rw[zK]at ad
 dsimp only at ad
 cases ad
 have x:(Zn ep k)[i]'(by rw[zK];exact d)=⟨ep,(i:Int)+1⟩:=(List.getElem?_eq_some_iff.1 (vw ep k i d)).2
 rw[x]at t0 t1
 dsimp only at t0 t1
 have zl:=o.lt
 dsimp only at zl
 have l:=ze o
 have ap:=ze ay
 have ar:=ze aA
 have aq:=ze az
 have au:=(o.later (E _ _).drew).mill
 obtain⟨R,a8,av,a7,aw⟩:=(ud HO).ok.reclaimed z T rfl
 dsimp only at R a8 av a7 aw
 have aT:¬zJ m.L=zJ (xa m.L s):=by
  have:=a8 qV
  have e1:=(ud HO).ok.seg.use _ (zU a7)
  dsimp only at e1
  unfold zJ;omega
 have b9:(zJ m.L==zJ (xa m.L s))=false:=by simpa using aT
 have a3:=R.seg.inr
 have a4:=R.seg.len400 y
 have HC:=ze (ZR au y ⟨ep,(i:Int)+1⟩ ⟨aU,by unfold xg;dsimp only;omega⟩ z b1 s aj ak ai T aE (by omega) (by have:=(ud HO).gl y;omega) a3 (J a4 (by decide)) (ud HO).ok.now (by have:=(ud HO).ok.t800 y;omega))
 clear au o ay aA az x a3 a4 R a8 av a7 aw
 refine xK 11 (by kernel_rfl) (by kernel_rfl) ?_
 simp only[List.take_succ_cons,List.take_zero,List.drop_succ_cons,List.drop_zero]
 repeat still_step
 refine wpStill_nil ?_
 go_wp2_with(first
  |(go_at_call 20;refine(ud HC).mono ?_;rintro e V2 ⟨rfl,aR,hM,hK,hP⟩;have C:Kx si Z V2:=((ud l).mill.below (E _ _).drew).trans hK;have t:=(ud l).putMill hM C;have s0:=(t.cells).1;dsimp only at s0;have sl:=t.lt;dsimp only at sl;have ao:=ze (C.kept.heap (ud ar) ((ud l).mill.tag (ud ar) (by decide)));have an:=ze (C.kept.heap (ud aq) ((ud l).mill.tag (ud aq) (by decide)));have aM:=ze (zgQ (c:=c) (ep:=ep) (m:=m) (ud aN) z T hP);have V:=ze (yL.reclaimed (c:=c) (ep:=ep) m ns _ g9 s aj ak ai aR z T hP);have M:=(ud V).ok y hf (ud HO);clear hP;have ah:=(M.ok.seg.u0 y);have aF:=(M.ok.seg.len400 y);have a2:=ze (qo t.mill y ⟨ah.1,Int.le_trans ah.2 (by decide)⟩ (J aF (by decide)));dsimp only at a2;have aQ:=ze t;have al:=ze ((ud ap).trans (Bel.mill (ud l).mill C (J F (ud ap).size) (ud l).mlo));have aO:=ze M;clear hM hK C t M ah aF)
  |(go_at_call 15;refine(ud a2).mono ?_;rintro e V3 ⟨rfl,f⟩;have G:=(f.block _ (zd (ud ao))).trans (ud ao);have af:=(f.block _ (zd (ud an))).trans (ud an);obtain⟨w0,w1,-⟩:=zc G;have w2:V3.cell? (U wb 2)=Y (I (Qa (yn (zJ m.L) c.qu))):=(by rw[xH G];rfl);obtain⟨-,-,-,w3,w4,w5,w6,w7,-⟩:=zc G;have wl:=zd G;obtain⟨p0,-⟩:=zc af;have pl:=zd af;have am:=ze f;clear f G af))
 go_ret
 have f:=(ud am).alloc (ud am).size (.cells #[I m.now,I (zJ (xa m.L s)),I (Qa (yn (zJ (xa m.L s)) c.qu)),I ep,I (xR (xa m.L s) 1),I (xR (xa m.L s) 2),I (xR (xa m.L s) 3),I (xZ m.Gl s ()).length] 37)
 have ax:=(ud aQ).later f
 have e0:yK ep (xa m.QL ⟨ep,(i:Int)+1⟩) k=(yK ep m.QL k).set i 0:=zad (ud HO).ok.nq k i
 rw[<-e0]at ax
 exact⟨rfl,_,ud V,⟨_,k,rfl,ax,hk,ud aO,aW,aX⟩,(ud al).trans (Bel.of f (J F (ud al).size)),ud aM⟩
end Go.Proofs.YtndhpgciopcncaaGreatDoor
