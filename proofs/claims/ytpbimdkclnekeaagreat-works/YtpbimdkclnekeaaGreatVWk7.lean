import Derived.Test.YtpbimdkclnekeaaGreatVWk3
import Derived.Test.YtpbimdkclnekeaaGreatVWk9
import Derived.Test.YtpbimdkclnekeaaGreatVLawH
import Derived.Test.YtpbimdkclnekeaaGreatVLawE
import Derived.Test.YtpbimdkclnekeaaGreatRows
import Derived.WalkKit
import Derived.ProofKit
import Derived.OpenShut
import Derived.ChangeOld
import Derived.Below
import Derived.SizedLaws
open Go.Value renaming int → I
open Go.IntKind renaming i64 → O
open Option renaming none → E
open Option renaming some → Q
open Go renaming World → Y
open Nat renaming le_refl → N
open Go.RowKit renaming Below → D
open Go renaming Value → P
open Nat renaming le_trans → M
open Go.RowKit.Below renaming refl → l
open Go.IntKind (i32)
set_option linter.unusedVariables false
set_option maxRecDepth 100000
set_option maxHeartbeats 4000000
open Go.Proofs.Tryz
namespace Go.Proofs.YtpbimdkclnekeaaGreat
open Go.RowKit Go.Maps Go.Shelf
theorem zfE(c:Cf)(g:24*(c.n+1)<=281474976710656)(o:xF c.s c.le c.la c.wi c.ke c.qu c.n c.F c.W c.K=false)(a:Option Addr)(cap p:Nat)(w:Y)(i:TS w a c.n c.F c.W c.K):
  Calls prog 48 #[.agg #[I O c.s,I O c.le,I O c.la,I O c.wi,I O c.ke,I O c.qu,.slice a c.n cap],.pointer (Q ⟨p,0,E⟩)] w fun e w'=>e=.returned (.tuple #[.pointer E,I O 1,.bool true])/\D w.1.size w w':=by
 refine(JD c.s c.le c.la c.wi c.ke c.qu a c.n cap c.F c.W c.K g w p (fun _=>False) (fun k h=>h.elim) (fun w' b=>i.below (b.below (N _) (fun k h=>h.elim))) (fun j d _=>j=E/\d=1) (fun j d A B b h=>h) (fun m r t q=>?_)).mono ?_
 ·refine(zfW c o (Q ⟨w.1.size+1,0,E⟩) (c.n+1) p m (q m (zk.refl _ _))).mono ?_
  rintro e u ⟨rfl,f⟩
  exact⟨E,1,rfl,zk.of_below f,rfl,rfl⟩
 ·rintro e w' ⟨j,d,rfl,b,rfl,rfl⟩
  exact⟨rfl,b.below (N _) (fun k h=>h.elim)⟩
def zfD(c:Cf)(B p:Nat)(fs:P)(w:Y)(e:Ending)(w':Y):Prop:=
 ∃(i:Ids) (a:P),e=.returned (.tuple #[.pointer (Q ⟨i.x,0,E⟩),I O 0,.bool true])/\zy w' i c 1 ⟨0,[],[],0,[],[]⟩/\zR 119 185 B w' p JB a/\zk (foot p fs) w w'/\(∀k,a.ownBlock=Q k->fs.ownBlock=Q k\/w.1.size<=k)/\(∀k,zU i k->w.1.size<=k/\¬foot p a k)
theorem zds(c:Cf)(y:c.ok)(J:xF c.s c.le c.la c.wi c.ke c.qu c.n c.F c.W c.K=true)(a:Option Addr)(cap B p:Nat)(fs:P)(w:Y)(S:B<=w.1.size)(r:zR 119 185 B w p QA fs)(u:∀w',zk (foot p fs) w w'->TS w' a c.n c.F c.W c.K):
  Calls prog 48 #[.agg #[I O c.s,I O c.le,I O c.la,I O c.wi,I O c.ke,I O c.qu,.slice a c.n cap],.pointer (Q ⟨p,0,E⟩)] w (zfD c B p fs w):=by
 have t:=r.lt
 have m:∀k,foot p fs k->k<w.1.size:=fun k b=>by
  rcases b with rfl|b
  ·exact t
  ·exact vw r.row k b
 have H:=y.n4
 refine(JD c.s c.le c.la c.wi c.ke c.qu a c.n cap c.F c.W c.K (by omega) w p (foot p fs) m u
  (fun v q w'=>∃(i:Ids) (d:P),v=Q ⟨i.x,0,E⟩/\q=0/\zy w' i c 1 ⟨0,[],[],0,[],[]⟩/\zR 119 185 B w' p JB d/\(∀k,d.ownBlock=Q k->fs.ownBlock=Q k\/w.1.size+3<=k)/\(∀k,zU i k->w.1.size+3<=k/\¬foot p d k))
  (fun v q A B b h=>?_) (fun R G T L=>?_)).mono ?_
 ·obtain⟨i,d,z,C,o,j,g,f⟩:=h
  refine⟨i,d,z,C,o.kept b (fun k b e=>?_),j.kept b (fun k b e=>?_),g,f⟩
  ·have:=(f k b).1;omega
  ·rcases b with rfl|b
   ·omega
   ·rcases g k b with h|h
    ·have:=m k (Or.inr h);omega
    ·omega
 ·refine(zfV c y J (Q ⟨w.1.size+1,0,E⟩) (c.n+1) B p fs R (by omega) (r.later G) L).mono ?_
  rintro e U ⟨i,d,rfl,o,j,b,g,f⟩
  exact⟨_,_,rfl,b,i,d,rfl,rfl,o,j,fun k b=>(g k b).imp id (fun h=>by omega),fun k b=>⟨by have:=(f k b).1;omega,(f k b).2⟩⟩
 ·rintro e w' ⟨v,q,rfl,b,i,d,rfl,rfl,o,j,g,f⟩
  exact⟨i,d,rfl,o,j,b,fun k b=>(g k b).imp id (fun h=>by omega),fun k b=>⟨by have:=(f k b).1;omega,(f k b).2⟩⟩
theorem zcv:Qk QA (-1)=QA:=by rfl
theorem zcc:zH QA=false:=by rfl
theorem zdr(c:Cf)(a1:24*(c.n+1)<=281474976710656)(hr:xF c.s c.le c.la c.wi c.ke c.qu c.n c.F c.W c.K=false)(a:Option Addr)(cap wb:Nat)(w:Y)(S:TS w a c.n c.F c.W c.K):
  Calls prog 20 #[.pointer (Q ⟨wb,0,E⟩),.agg #[I O c.s,I O c.le,I O c.la,I O c.wi,I O c.ke,I O c.qu,.slice a c.n cap],I O (-1)] w fun e w'=>e=.returned (.bool true)/\D w.1.size w w':=by
 have J:D w.1.size w (w.alloc (.cells #[I O c.s,I O c.le,I O c.la,I O c.wi,I O c.ke,I O c.qu,.slice a c.n cap] 27)):=(l _ _).alloc (N _) _
 have U:=ze (CF.made w 27 (0,0) c.s c.le c.la c.wi c.ke c.qu a c.n cap)
 have V:Hid ((w.alloc (.cells #[I O c.s,I O c.le,I O c.la,I O c.wi,I O c.ke,I O c.qu,.slice a c.n cap] 27)).1.size=w.1.size+1):=zF w _
 have x:=ze J
 clear J
 go_enter func20,ntmps20
 go_wp2_with fail
 generalize(w.alloc (.cells #[I O c.s,I O c.le,I O c.la,I O c.wi,I O c.ke,I O c.qu,.slice a c.n cap] 27))=X at*
 refine(zfz 0 X (Nat.zero_le _)).mono ?_
 rintro e w1 ⟨rfl,L,G,a0⟩
 have q:=ze (zcu 0 _ QA _ (-1) w1 L)
 rw[zcv]at q
 have v:=ze G
 clear a0 G L
 go_wp2_with fail
 refine(ud q).mono ?_
 rintro e u ⟨rfl,t,R⟩
 have p:=ze (qO 0 _ QA _ u t)
 rw[zcc]at p
 have o:zk (fun k=>k=X.1.size) X u:=(zk.of_below (f:=fun k=>k=X.1.size) (ud v)).trans R (fun i hi e=>by
  rcases e with e|e
  ·exact e
  ·cases e)
 have b:D X.1.size X u:=o.below (N _) (fun k e=>by omega)
 have m:D w.1.size w u:=(ud x).trans (b.mono (ud x).size)
 have C:w.1.size<X.1.size:=by have:=ud V;omega
 have j:=ze ((ud U).below b C)
 obtain⟨_,c0,c1,c2,c3,c4,c5,c6⟩:=ud j
 have d:=ze m
 have y:=ze b
 have a2:=ze t
 clear R o t b m q v
 go_wp2_with fail
 refine(ud p).mono ?_
 rintro e V1 ⟨rfl,B⟩
 rw[B]
 clear B p
 have z:=ze (zfE c a1 hr a cap X.1.size u (S.below (ud d)))
 go_wp2_with fail
 refine(ud z).mono ?_
 rintro e w3 ⟨rfl,r⟩
 have g:=(ud d).trans (r.mono (ud d).size)
 have Z:w.1.size<u.1.size:=Nat.lt_of_lt_of_le C (ud y).size
 obtain⟨_,d0,d1,d2,d3,d4,d5,d6⟩:=(ud j).below r Z
 have A:=ze (Qc c.s c.le c.la c.wi c.ke c.qu a c.n cap c.F c.W c.K w3 (S.below g))
 rw[hr,show ZZ false=1 from rfl]at A
 have h:=ze g
 clear r g z c0 c1 c2 c3 c4 c5 c6
 go_wp2_with fail
 refine(ud A).mono ?_
 rintro e w4 ⟨rfl,H⟩
 have T:=ze H
 clear H
 go_wp2_with fail
 go_ret
 exact⟨rfl,(ud h).trans ((ud T).mono (ud h).size)⟩
theorem Vu{w:Y}{B:Nat}{e:TypeId}{size:Nat}{v:P}{n:Nat}{xs:List P}(h:w.ownsRow B e size v n xs){k:Nat}(a:v.ownBlock=Q k):B<=k:=by
 rcases h.2 with⟨rfl,_⟩|⟨g,cap,b,rfl,c,_⟩
 ·cases a
 ·cases a;exact c
theorem Tryz.infoPostP:(prog.info? 103).map (fun i=>(i.zero,i.size,i.bytes))=Q (Q (.pointer E),1,8):=by kernel_rfl
def zca(w:Y)(wb b:Nat)(pv c:P)(ps:List Nat)(w':Y):Prop:=∃(p:PD) (a:P),p.at w'/\p.m=⟨0,[],[],0,[],[]⟩/\p.th=[]/\p.ep=1/\w'.1[wb]?=Q (.cells #[a,c] 63 (0,0))/\w'.ownsRow b 103 1 a (ps.length+1) ((ps++[p.po]).map (fun q=> .pointer (Q ⟨q,0,E⟩)))/\(∀k,p.foot k->w.1.size<=k)/\zk (fun k=>k=wb\/pv.ownBlock=Q k) w w'/\∀k,a.ownBlock=Q k->pv.ownBlock=Q k\/w.1.size<=k
theorem Yn(c:Cf)(hc:c.ok)(hr:xF c.s c.le c.la c.wi c.ke c.qu c.n c.F c.W c.K=true)(a:Option Addr)(cap wb:Nat)(w:Y)(aV:TS w a c.n c.F c.W c.K){pv lv:P}{ps:List Nat}(hw:w.1[wb]?=Q (.cells #[pv,lv] 63 (0,0))){Bp:Nat}(bb:Bp<=w.1.size)(al:w.ownsRow Bp 103 1 pv ps.length (ps.map (fun q=> .pointer (Q ⟨q,0,E⟩))))(c7:ps.length+1<=maxLen)(c8:(ps.length+1)*8<=140737488355328):
  Calls prog 20 #[.pointer (Q ⟨wb,0,E⟩),.agg #[I O c.s,I O c.le,I O c.la,I O c.wi,I O c.ke,I O c.qu,.slice a c.n cap],I O (-1)] w fun e w'=>e=.returned (.bool true)/\zca w wb Bp pv lv ps w':=by
 obtain⟨pa,m,rfl⟩:=zq al
 have cd:=zd hw
 have bu:¬(Value.slice pa ps.length m).ownBlock=Q wb:=fun e=>by
  obtain⟨bN,hc⟩:=zO al e
  rw[hw]at hc
  injection hc with hc;injection hc with _ hc;exact absurd hc (by decide)
 have HW:=ze hw
 have aF:=ze al
 have bC:=ze bb
 clear bb
 clear hw al
 have be:D w.1.size w (w.alloc (.cells #[I O c.s,I O c.le,I O c.la,I O c.wi,I O c.ke,I O c.qu,.slice a c.n cap] 27)):=(l _ _).alloc (N _) _
 have bD:=ze (CF.made w 27 (0,0) c.s c.le c.la c.wi c.ke c.qu a c.n cap)
 have bL:Hid ((w.alloc (.cells #[I O c.s,I O c.le,I O c.la,I O c.wi,I O c.ke,I O c.qu,.slice a c.n cap] 27)).1.size=w.1.size+1):=zF w _
 have aZ:=ze be
 clear be
 go_enter func20,ntmps20
 go_wp2_with fail
 generalize(w.alloc (.cells #[I O c.s,I O c.le,I O c.la,I O c.wi,I O c.ke,I O c.qu,.slice a c.n cap] 27))=X at*
 refine(zfz 0 X (Nat.zero_le _)).mono ?_
 rintro e w1 ⟨rfl,bg,bd,ca⟩
 have aI:=ze (zcu 0 _ QA _ (-1) w1 bg)
 rw[zcv]at aI
 have aX:=ze bd
 clear ca bd bg
 go_wp2_with fail
 refine(ud aI).mono ?_
 rintro e w2 ⟨rfl,aN,bk⟩
 have aH:=ze (qO 0 _ QA _ w2 aN)
 rw[zcc]at aH
 have aA:zk (fun k=>k=X.1.size) X w2:=(zk.of_below (f:=fun k=>k=X.1.size) (ud aX)).trans bk (fun i hi e=>by
  rcases e with e|e
  ·exact e
  ·cases e)
 have G:D X.1.size X w2:=aA.below (N _) (fun k e=>by omega)
 have aw:D w.1.size w w2:=(ud aZ).trans (G.mono (ud aZ).size)
 have aK:w.1.size<X.1.size:=by have:=ud bL;omega
 have ao:=ze ((ud bD).below G aK)
 obtain⟨_,c0,c1,c2,c3,c4,c5,c6⟩:=ud ao
 have a2:=ze aw
 have b0:=ze G
 have bE:=ze aN
 clear bk aA aN G aw aI aX
 go_wp2_with fail
 refine(ud aH).mono ?_
 rintro e V1 ⟨rfl,bc⟩
 rw[bc]
 clear bc aH
 have bz:w.1.size<=X.1.size:=Nat.le_of_lt aK
 have aW:w.1.size<=w2.1.size:=(ud a2).size
 have b6:=ze (zds c hc hr a cap 0 X.1.size (.slice E 0 0) w2 (Nat.zero_le _) (ud bE) (fun w' b=>aV.below ((ud a2).trans (b.below aW (fun k e=>by
  rcases e with e|e
  ·omega
  ·cases e)))))
 go_wp2_with fail
 refine(ud b6).mono ?_
 rintro e w3 ⟨i,aJ,rfl,bs,bh,bl,az,aB⟩
 have aL:D X.1.size w2 w3:=bl.below (ud b0).size (fun k e=>by
  rcases e with e|e
  ·omega
  ·cases e)
 have a6:D w.1.size w w3:=(ud a2).trans (aL.mono bz)
 have a8:=(ud ao).below aL aK
 obtain⟨_,d0,d1,d2,d3,d4,d5,d6⟩:=id a8
 have aG:=ze (Qc c.s c.le c.la c.wi c.ke c.qu a c.n cap c.F c.W c.K w3 (aV.below a6))
 rw[hr,show ZZ true=0 from rfl]at aG
 have an:=ze a6
 have ap:=ze a8
 have bG:=ze bs
 have bF:=ze bh
 have b2:=ze az
 have ar:=ze aB
 clear bs bh bl az aB aL a6 a8 b6 c0 c1 c2 c3 c4 c5 c6
 go_wp2_with fail
 refine(ud aG).mono ?_
 rintro e g ⟨rfl,U⟩
 have ax:=(ud an).trans (U.mono (ud an).size)
 have bU:w.1.size<w3.1.size:=(ud ap).1
 have a9:=(ud ap).below U bU
 obtain⟨_,e0,e1,e2,e3,e4,e5,e6⟩:=id a9
 have aP:=(ud bG).later U
 have bi:=(ud bF).later U
 have aM:D g.1.size g (g.alloc (zw i.x X.1.size c (.slice a c.n cap) (.slice E 0 0) (.slice E 0 0) 0)):=(l _ _).alloc (N _) _
 have ah:=ze (zgO (aP.later aM) hc (by decide) (by decide) c (zo g (zw i.x X.1.size c (.slice a c.n cap) (.slice E 0 0) (.slice E 0 0) 0)))
 rw[show decide ((0:Int)<1)=true from rfl]at ah
 have co:=ze U
 have a3:=ze ax
 have aq:=ze a9
 have b4:=ze aP
 have aE:=ze bi
 have aY:=ze aM
 clear U ax a9 aP bi aM aG d0 d1 d2 d3 d4 d5 d6
 unfold zw at ah
 go_wp2_with fail
 refine(ud ah).mono ?_
 rintro e S ⟨rfl,aj,bm⟩
 have B:D g.1.size g S:=(ud aY).trans (bm.below (ud aY).size (fun k e=>by omega))
 have a7:D w.1.size w S:=(ud a3).trans (B.mono (ud a3).size)
 have bV:w.1.size<g.1.size:=(ud aq).1
 have J:=(ud aq).below B bV
 obtain⟨_,f0,f1,f2,f3,f4,f5,f6⟩:=id J
 obtain⟨-,-,-,-,-,-,-,-,-,-,-,-,bB,-⟩:=zc aj
 have b9:=ze (VE c hc a cap 1 S.drew (aV.below a7.drew))
 have bW:w.1.size<S.1.size:=J.1
 have b1:=ze J
 have aC:=zd aj
 have b7:=ze aj
 have a0:=ze B
 have a4:=ze a7
 clear aj bm B a7 J ah e0 e1 e2 e3 e4 e5 e6
 go_wp2_with fail
 go_region_held3 (fun w'=>w'.cell? ⟨w.1.size,0,E⟩=Q (I O c.s)/\w'.cell? ⟨w.1.size,1,E⟩=Q (I O c.le)/\w'.cell? ⟨w.1.size,2,E⟩=Q (I O c.la)/\w'.cell? ⟨w.1.size,3,E⟩=Q (I O c.wi)/\w'.cell? ⟨w.1.size,4,E⟩=Q (I O c.ke)/\w'.cell? ⟨w.1.size,5,E⟩=Q (I O c.qu)/\w'.cell? ⟨w.1.size,6,E⟩=Q (.slice a c.n cap)/\w'.cell? ⟨g.1.size,12,E⟩=Q (I O 1)) (go_keep) (first
  |(go_at_call 52;refine(ud b9).mono ?_;rintro e Z ⟨r,am,rfl,ad,T⟩;have A:D S.1.size S Z:=⟨T.os,T.tape,T.output,T.size,T.block⟩;have b8:Hid (zJ S.1.size Z r ⟨c,0,[],[],[],[],1,0⟩ am (.slice E 0 0) (.slice E 0 0) (.slice E 0 0) (.slice E 0 0)):=ad;clear T ad;have ce:=(A.cell (p:=⟨g.1.size,12,E⟩) aC).trans bB;obtain⟨_,h0,h1,h2,h3,h4,h5,h6⟩:=(ud b1).below A bW;have ag:=ze A;clear A))
 have A:=ud ag
 have ak:=(A.block g.1.size (zd (ud b7))).trans (ud b7)
 obtain⟨-,-,-,-,-,-,-,-,-,p9,-⟩:=zc ak
 have bv:=zd ak
 have ay:D w.1.size w Z:=(ud a4).trans (A.mono (ud a4).size)
 have bf:D Z.1.size Z (Z.alloc (.cells #[.pointer (Q ⟨r,0,E⟩)] 108)):=(l _ _).alloc (N _) _
 have c9:¬wb=g.1.size:=by omega
 have a5:=ze ay
 have aD:=ze bf
 clear ay bf
 have br:0<1:=by decide
 have bX:0+1<=maxLen:=by simp[maxLen]
 have bY:(0+1)*8<=140737488355328:=by omega
 have bI:=ze ak
 clear ak A b9 bB ce f0 f1 f2 f3 f4 f5 f6 h0 h1 h2 h3 h4 h5 h6
 go_wp2_with(first|(at_builtin;refine zP rfl _ _ 104 rfl 0 108 _ 1 8 underlying104 Tryz.infoRefP rfl (by decide) (.slice E 0 0) 0 [] rfl (World.ownsRow_nil _ _ _ _) ⟨Z.1.size,0,E⟩ 1 1 [.pointer (Q ⟨r,0,E⟩)] rfl rfl (World.news_of_block (cs:=#[.pointer (Q ⟨r,0,E⟩)]) (zo Z _)) (by intro u hu;simp at hu;subst hu;rfl) br bX bY (Nat.zero_le _) ?_;intro v d o aa aQ L au cg;have bH:=ze aa;have C:D Z.1.size Z o:=(ud aD).grown L (ud aD).size (fun k e=>by cases e);have H:D w.1.size w o:=(ud a5).trans (C.mono (ud a5).size);have ae:=(H.block wb cd).trans (ud HW);obtain⟨k0,-⟩:=zc ae;have kf:∀j,o.frozen? ⟨wb,j,E⟩=false:=(fun j=>zD ae j);have ac:=(C.block g.1.size bv).trans (ud bI);obtain⟨-,-,-,-,-,-,-,-,-,k9,-⟩:=zc ac;have kp:∀j,o.frozen? ⟨g.1.size,j,E⟩=false:=(fun j=>zD ac j);have cj:=zd ac;have ck:=zd ae;have cq:Z.1.size<=v:=(by rcases au with h|h;cases h;rw[h];exact(ud aD).size);have bA:(o.setCell ⟨g.1.size,9,E⟩ (.slice (Q ⟨v,0,E⟩) 1 d)).1.size=o.1.size:=(by simp[World.setCell]);have bM:Hid (((o.setCell ⟨g.1.size,9,E⟩ (.slice (Q ⟨v,0,E⟩) 1 d)).alloc (.cells #[.pointer (Q ⟨g.1.size,0,E⟩)] 103)).1[o.1.size]?=Q (.cells #[.pointer (Q ⟨g.1.size,0,E⟩)] 103)):=(by have h:=zo (o.setCell ⟨g.1.size,9,E⟩ (.slice (Q ⟨v,0,E⟩) 1 d)) (.cells #[.pointer (Q ⟨g.1.size,0,E⟩)] 103);rw[bA]at h;exact h);have y:Hid (zk (fun k=>k=g.1.size) w ((o.setCell ⟨g.1.size,9,E⟩ (.slice (Q ⟨v,0,E⟩) 1 d)).alloc (.cells #[.pointer (Q ⟨g.1.size,0,E⟩)] 103))):=qS (zn (zk.of_below H) rfl) ((l _ _).alloc (N _) _);have bK:Hid (((o.setCell ⟨g.1.size,9,E⟩ (.slice (Q ⟨v,0,E⟩) 1 d)).alloc (.cells #[.pointer (Q ⟨g.1.size,0,E⟩)] 103)).ownsRow Bp 103 1 (.slice pa ps.length m) ps.length (ps.map (fun q=> .pointer (Q ⟨q,0,E⟩)))):=zi (ud aF) (ud y) (fun k b e=>by have h:=vw (ud aF) k b;omega);clear bA;have a1:=ze C;have cf:=ze H;have cp:=ze ae;have bJ:=ze ac;clear aa aQ L au C H ae ac)|(at_builtin;refine zP rfl _ _ 60 rfl Bp 103 _ 1 8 underlying60 Tryz.infoPostP rfl (by decide) (.slice pa ps.length m) ps.length (ps.map (fun q=> .pointer (Q ⟨q,0,E⟩))) rfl (ud bK) ⟨o.1.size,0,E⟩ 1 1 [.pointer (Q ⟨g.1.size,0,E⟩)] rfl rfl (World.news_of_block (cs:=#[.pointer (Q ⟨g.1.size,0,E⟩)]) (ud bM)) (by intro u hu;simp at hu;subst hu;rfl) br c7 c8 (M (ud bC) (ud y).size) ?_;intro g8 z W8 ab aR R av ch;have b5:=ze ab;have aO:zk (fun k=>(Value.slice pa ps.length m).ownBlock=Q k) ((o.setCell ⟨g.1.size,9,E⟩ (.slice (Q ⟨v,0,E⟩) 1 d)).alloc (.cells #[.pointer (Q ⟨g.1.size,0,E⟩)] 103)) W8:=(zk.refl _ _).grown R (fun k e _=>e);have bx:((o.setCell ⟨g.1.size,9,E⟩ (.slice (Q ⟨v,0,E⟩) 1 d)).alloc (.cells #[.pointer (Q ⟨g.1.size,0,E⟩)] 103)).1[wb]?=_:=(ud y).heap (ud HW) c9;have af:=aO.heap bx bu;obtain⟨m0,-⟩:=zc af;have mf:∀j,W8.frozen? ⟨wb,j,E⟩=false:=(fun j=>zD af j);have cl:=zd af;have b3:=ze aO;have ba:=ze af;have bS:(Value.slice pa ps.length m).ownBlock=Q g8\/w.1.size<=g8:=(by rcases av with h|h;exact .inl h;right;rw[h];exact(ud y).size);clear ab aR R av aO bx af)|go_in)
 have bZ:=((((ud b4).later (ud a0)).later (ud ag)).later (ud a1))
 have bQ:=((((ud aE).later (ud a0)).later (ud ag)).later (ud a1))
 have aS:=(ud b8).later (ud a1)
 have cr:w.1.size<=g.1.size:=(ud a3).size
 have ct:w.1.size<=S.1.size:=(ud a4).size
 have cu:w.1.size<=Z.1.size:=(ud a5).size
 have cm:g.1.size<=S.1.size:=(ud a0).size
 have cn:S.1.size<=Z.1.size:=(ud ag).size
 have bt:∀k,zU i k->k<g.1.size:=(ud b4).foot_lt
 have bR:∀k,foot X.1.size aJ k->k<g.1.size:=fun k b=>by
  rcases b with rfl|b
  ·exact(ud aE).lt
  ·exact vw (ud aE).row k b
 have cb:(o.setCell ⟨g.1.size,9,E⟩ (.slice (Q ⟨v,0,E⟩) 1 d)).1[g.1.size]?=Q (zw i.x X.1.size c (.slice a c.n cap) (.slice (Q ⟨v,0,E⟩) 1 d) (.slice E 0 0) 1):=by
  have hq:=ud bJ
  unfold zw at hq ⊢
  exact xm (i:=9) hq _
 have ai:zk (fun k=>k=g.1.size) o (o.setCell ⟨g.1.size,9,E⟩ (.slice (Q ⟨v,0,E⟩) 1 d)):=zn (zk.refl _ _) rfl
 have aT:∀k,vP r am (.slice E 0 0) (.slice E 0 0) (.slice E 0 0) (.slice E 0 0) k->S.1.size<=k:=fun k b=>by
  rcases b with rfl|b|b|b|b|b
  ·exact aS.base
  ·exact Vu aS.trow b
  ·cases b
  ·cases b
  ·cases b
  ·cases b
 have ci:g.1.size<S.1.size:=aC
 have bP:PD.at ⟨g.1.size,X.1.size,r,i,c,.slice a c.n cap,.slice (Q ⟨v,0,E⟩) 1 d,.slice E 0 0,aJ,1,⟨0,[],[],0,[],[]⟩,[],0,S.1.size,⟨c,0,[],[],[],[],1,0⟩,am,.slice E 0 0,.slice E 0 0,.slice E 0 0,.slice E 0 0⟩ (o.setCell ⟨g.1.size,9,E⟩ (.slice (Q ⟨v,0,E⟩) 1 d)):=by
  refine⟨cb,bZ.kept ai (fun k b e=>?_),bQ.kept ai (fun k b e=>?_),zi (ud bH) ai (fun k b e=>?_),World.ownsRow_nil _ _ _ _,aS.kept ai (fun k b e=>?_),(fun k e=>by cases e),xR.new hc (zdO hr),(fun t ht=>by cases ht),(fun k b e=>?_)⟩
  ·have:=bt k b;omega
  ·have:=bR k b;omega
  ·have hg:v=k:=Option.some.inj b;omega
  ·have:=aT k b;omega
  ·have h1:k<g.1.size:=bt k e
   rcases b with b|b|b|b|b
   ·have:k=g.1.size:=b;omega
   ·exact(ud ar k e).2 b
   ·have hg:v=k:=Option.some.inj b;omega
   ·cases b
   ·have:=aT k b;omega
 have bj:∀k,PD.foot ⟨g.1.size,X.1.size,r,i,c,.slice a c.n cap,.slice (Q ⟨v,0,E⟩) 1 d,.slice E 0 0,aJ,1,⟨0,[],[],0,[],[]⟩,[],0,S.1.size,⟨c,0,[],[],[],[],1,0⟩,am,.slice E 0 0,.slice E 0 0,.slice E 0 0,.slice E 0 0⟩ k->w.1.size<=k:=fun k b=>by
  rcases b with b|b|b|b|b|b
  ·exact M aW (ud ar k b).1
  ·have:k=g.1.size:=b;omega
  ·rcases b with rfl|b
   ·exact bz
   ·rcases ud b2 k b with h|h
    ·cases h
    ·exact M aW h
  ·have hg:v=k:=Option.some.inj b;omega
  ·cases b
  ·have:=aT k b;omega
 have bw:=fun k b=>vw (ud aF) k b
 have bp:zk (fun k=>k=wb\/(Value.slice pa ps.length m).ownBlock=Q k) (o.setCell ⟨g.1.size,9,E⟩ (.slice (Q ⟨v,0,E⟩) 1 d)) ((o.setCell ⟨g.1.size,9,E⟩ (.slice (Q ⟨v,0,E⟩) 1 d)).alloc (.cells #[.pointer (Q ⟨g.1.size,0,E⟩)] 103)):=zk.of_below ((l _ _).alloc (N _) _)
 have bn:zk (fun k=>k=wb\/(Value.slice pa ps.length m).ownBlock=Q k) (o.setCell ⟨g.1.size,9,E⟩ (.slice (Q ⟨v,0,E⟩) 1 d)) W8:=bp.trans (ud b3) (fun k _ h=> .inr h)
 have bo:zk (fun k=>k=wb\/(Value.slice pa ps.length m).ownBlock=Q k) (o.setCell ⟨g.1.size,9,E⟩ (.slice (Q ⟨v,0,E⟩) 1 d)) (W8.setCell ⟨wb,0,E⟩ (.slice (Q ⟨g8,0,E⟩) (ps.length+1) z)):=zn bn (.inl rfl)
 have bT:zk (fun k=>k=wb\/(Value.slice pa ps.length m).ownBlock=Q k) w ((o.setCell ⟨g.1.size,9,E⟩ (.slice (Q ⟨v,0,E⟩) 1 d)).alloc (.cells #[.pointer (Q ⟨g.1.size,0,E⟩)] 103)):=⟨(ud y).os,(ud y).tape,(ud y).output,(ud y).size,fun k b _=>(ud y).block k b (by omega)⟩
 have bq:zk (fun k=>k=wb\/(Value.slice pa ps.length m).ownBlock=Q k) w (W8.setCell ⟨wb,0,E⟩ (.slice (Q ⟨g8,0,E⟩) (ps.length+1) z)):=zn (bT.trans (ud b3) (fun k _ h=> .inr h)) (.inl rfl)
 have aU:(W8.setCell ⟨wb,0,E⟩ (.slice (Q ⟨g8,0,E⟩) (ps.length+1) z)).ownsRow Bp 103 1 (.slice (Q ⟨g8,0,E⟩) (ps.length+1) z) (ps.length+1) (ps.map (fun q=> .pointer (Q ⟨q,0,E⟩))++[.pointer (Q ⟨g.1.size,0,E⟩)]):=zi (ud b5) (zn (f:=fun k=>k=wb) (zk.refl _ _) rfl) (fun k b e=>by
  obtain⟨bN,V⟩:=zO (ud b5) b
  have hq:=ud ba
  rw[e,hq]at V
  injection V with V;injection V with _ V;exact absurd V (by decide))
 have bO:=bP.kept bo (fun k b e=>by
  have h1:=bj k b
  rcases e with e|e
  ·omega
  ·have:=bw k e;omega)
 have cc:=xm (i:=0) (ud ba) (.slice (Q ⟨g8,0,E⟩) (ps.length+1) z)
 go_ret
 exact⟨rfl,_,_,bO,rfl,rfl,rfl,cc,by rw[List.map_append];exact aU,bj,bq,fun k b=>by have hg:g8=k:=Option.some.inj b;rw[<-hg];exact bS⟩
def yK(p:PD)(w w':Y):Prop:=∃a:PD,a.at w'/\a.po=p.po/\a.ep=p.ep/\a.th.length<=p.th.length+1/\a.m.num<=p.m.num+1/\(∀k,a.foot k->p.foot k\/w.1.size<=k)/\zk p.foot w w'
def Zt(p:PD)(R:RM)(J:Tk)(C:Int)(jb:Tk)(a:Int)(m':MS):Prop:=jb=J/\a=C/\xR p.c p.ep m' R/\m'.num<=p.m.num+1
theorem zlp(p:PD){w:Y}(h:p.at w)(o:Ops)(ha: -9223372036854775808<=o.a/\o.a<=9223372036854775807)(Z:(⟨o.te,o.tn⟩:Tok).wf)(hl:p.th.length<=1099511627776)(hv: -2147483648<=o.v/\o.v<=2147483647):
  Calls prog 55 #[.pointer (Q ⟨p.po,0,E⟩),.agg #[I O 2,I O o.on,I O o.a,I O o.b,I O o.c,I i32 o.v,I O o.te,I O o.tn,I O o.fs,I O o.fe,I O o.fd,I O o.fw,I O o.fk,I O o.fq,.slice o.fa o.fn o.fc]] w fun e w'=>e=.returned (.bool true)/\yK p w w':=by
 obtain⟨t,ht,C⟩:=jN p.th {o with kd:=2} ha Z h.twf hl
 refine(jR p h o 2 rfl t (fun V s=>C V p.po p.i.x p.d p.c p.ct p.mv p.td p.ep (h.later s).head (h.later s).told) (Zt p (p.rm.ingest o.a o.b o.v).1 ju (p.rm.ingest o.a o.b o.v).2) (fun V s=>?_) ?_ ?_).mono ?_
 ·have n:=h.later s
  have z:∀X,D V.1.size V X->Calls prog 59 #[.pointer (Q ⟨p.i.x,0,E⟩),I O o.a,I O o.b,I i32 o.v] X fun e m=>∃(f:Int) (m':MS),e=.returned (I O f)/\zy m p.i p.c p.ep m'/\zk (zU p.i) X m/\Zt p (p.rm.ingest o.a o.b o.v).1 ju (p.rm.ingest o.a o.b o.v).2 ju f m':=fun X r=>by
   have W:=(n.later r).mill
   refine(zhB W h.sim o.a o.b o.v hv).mono fun e m ⟨m',j,u,g,k,T⟩=>?_
   exact⟨_,m',j,u,g,rfl,rfl,k,T⟩
  have F:=zhk p.c n.head (n.apart _ (.inl rfl)) n.mill.foot_lt {o with te:=t.ep,tn:=t.num} t.ep t.num (fun f m'=>Zt p (p.rm.ingest o.a o.b o.v).1 ju (p.rm.ingest o.a o.b o.v).2 ju f m') z
  exact F.mono fun e m ⟨f,m',j,u,g,k⟩=>⟨ju,f,m',j,u,g,k⟩
 ·rintro jb f m' ⟨rfl,rfl,g,k⟩
  refine⟨_,g,fun B q V tv nv pv gv kv A y U=>?_⟩
  exact zkz A {o with te:=t.ep,tn:=t.num} t.ep t.num (fun X r=>zgf (A.later r) y (M U r.size) h.sim o.a o.b o.v hv)
 ·rintro jb f m' ⟨rfl,rfl,g,k⟩
  exact zlx _ _ _ _
 ·rintro e w' ⟨j,p',G,H,a3,a4,J,K,⟨jb,f,L⟩,R,S⟩
  exact⟨j,p',G,H,J,K,L.2.2.2,R,S⟩
theorem zlq(p:PD){w:Y}(h:p.at w)(o:Ops)(A: -9223372036854775808<=o.a/\o.a<=9223372036854775807)(hT:(⟨o.te,o.tn⟩:Tok).wf)(hl:p.th.length<=1099511627776):
  Calls prog 55 #[.pointer (Q ⟨p.po,0,E⟩),.agg #[I O 3,I O o.on,I O o.a,I O o.b,I O o.c,I i32 o.v,I O o.te,I O o.tn,I O o.fs,I O o.fe,I O o.fd,I O o.fw,I O o.fk,I O o.fq,.slice o.fa o.fn o.fc]] w fun e w'=>e=.returned (.bool true)/\yK p w w':=by
 obtain⟨t,ht,F⟩:=jN p.th {o with kd:=3} A hT h.twf hl
 refine(jR p h o 3 rfl t (fun V s=>F V p.po p.i.x p.d p.c p.ct p.mv p.td p.ep (h.later s).head (h.later s).told) (Zt p (p.rm.tickL o.a).1 ju (p.rm.tickL o.a).2) (fun V s=>?_) ?_ ?_).mono ?_
 ·have n:=h.later s
  have z:∀X,D V.1.size V X->Calls prog 36 #[.pointer (Q ⟨p.i.x,0,E⟩),I O o.a] X fun e m=>∃(f:Int) (m':MS),e=.returned (I O f)/\zy m p.i p.c p.ep m'/\zk (zU p.i) X m/\Zt p (p.rm.tickL o.a).1 ju (p.rm.tickL o.a).2 ju f m':=fun X r=>by
   have Z:=(n.later r).mill
   refine(zgP Z h.sim o.a).mono fun e m ⟨m',j,u,g,k,U⟩=>?_
   exact⟨_,m',j,u,g,rfl,rfl,k,U⟩
  have G:=zhl p.c n.head (n.apart _ (.inl rfl)) n.mill.foot_lt {o with te:=t.ep,tn:=t.num} t.ep t.num (fun f m'=>Zt p (p.rm.tickL o.a).1 ju (p.rm.tickL o.a).2 ju f m') z
  exact G.mono fun e m ⟨f,m',j,u,g,k⟩=>⟨ju,f,m',j,u,g,k⟩
 ·rintro jb f m' ⟨rfl,rfl,g,k⟩
  refine⟨_,g,fun B q V tv nv pv gv kv C y W=>?_⟩
  exact zkA C {o with te:=t.ep,tn:=t.num} t.ep t.num (fun X r=>zdT (C.later r) y (M W r.size) h.sim o.a A)
 ·rintro jb f m' ⟨rfl,rfl,g,k⟩
  exact zlf _ _
 ·rintro e w' ⟨j,p',H,J,a3,a4,K,L,⟨jb,f,R⟩,S,T⟩
  exact⟨j,p',H,J,K,L,R.2.2.2,S,T⟩
theorem zlr(p:PD){w:Y}(h:p.at w)(o:Ops)(ha: -9223372036854775808<=o.a/\o.a<=9223372036854775807)(hT:(⟨o.te,o.tn⟩:Tok).wf)(hl:p.th.length<=1099511627776)(f:p.m.num<=1000000000000000)(C:p.ep=1)(G:(p.th.length+1)*16<=140737488355328):
  Calls prog 55 #[.pointer (Q ⟨p.po,0,E⟩),.agg #[I O 6,I O o.on,I O o.a,I O o.b,I O o.c,I i32 o.v,I O o.te,I O o.tn,I O o.fs,I O o.fe,I O o.fd,I O o.fw,I O o.fk,I O o.fq,.slice o.fa o.fn o.fc]] w fun e w'=>e=.returned (.bool true)/\yK p w w':=by
 obtain⟨t,ht,J⟩:=jN p.th {o with kd:=6} ha hT h.twf hl
 have g:yS p.ep:=by rw[C];unfold yS;omega
 refine(J8 p h o t (fun V s=>J V p.po p.i.x p.d p.c p.ct p.mv p.td p.ep (h.later s).head (h.later s).told) (Zt p (p.rm.pick o.a).1 (p.rm.pick o.a).2.1 (p.rm.pick o.a).2.2) (fun V s=>?_) ?_ ?_ ?_ G).mono ?_
 ·have r:=h.later s
  have F:∀X,D V.1.size V X->Calls prog 16 #[.pointer (Q ⟨p.i.x,0,E⟩),I O o.a] X fun e u=>∃(jb:Tk) (j:Int) (m':MS),e=.returned (.tuple #[tkA jb,I O j])/\zy u p.i p.c p.ep m'/\zk (zU p.i) X u/\Zt p (p.rm.pick o.a).1 (p.rm.pick o.a).2.1 (p.rm.pick o.a).2.2 jb j m':=fun X z=>by
   have hM:=(r.later z).mill
   refine(zfS hM h.sim f g o.a).mono fun e u ⟨m',y,Z,k,n,e5⟩=>?_
   exact⟨_,_,m',y,Z,k,rfl,rfl,n,e5⟩
  exact zhm p.c r.head (r.apart _ (.inl rfl)) r.mill.foot_lt {o with te:=t.ep,tn:=t.num} t.ep t.num (Zt p (p.rm.pick o.a).1 (p.rm.pick o.a).2.1 (p.rm.pick o.a).2.2) F
 ·rintro jb j m' ⟨rfl,rfl,k,n⟩
  refine⟨_,k,fun B q V tv nv pv gv kv H A hB=>?_⟩
  exact zkB H {o with te:=t.ep,tn:=t.num} t.ep t.num (fun X z=>zdS (H.later z) A h.sim f o.a)
 ·rintro jb j m' ⟨rfl,rfl,k,n⟩
  exact zkW _ _
 ·rintro jb j m' ⟨rfl,rfl,k,n⟩
  have h7:=h.sim.sok.ok.num
  have h8:=h.sim.picks
  have h9:=h.sim.epo
  unfold RM.pick
  unfold Tok.wf yS
  repeat' split
  all_goals(dsimp only[ju,Tk.leased];omega)
 ·rintro e w' ⟨y,p',K,L,a3,a4,R,S,⟨jb,j,T⟩,U,W⟩
  exact⟨y,p',K,L,R,S,T.2.2.2,U,W⟩
theorem zls(p:PD){w:Y}(h:p.at w)(o:Ops)(ha: -9223372036854775808<=o.a/\o.a<=9223372036854775807)(Z:(⟨o.te,o.tn⟩:Tok).wf)(hl:p.th.length<=1099511627776):
  Calls prog 55 #[.pointer (Q ⟨p.po,0,E⟩),.agg #[I O 7,I O o.on,I O o.a,I O o.b,I O o.c,I i32 o.v,I O o.te,I O o.tn,I O o.fs,I O o.fe,I O o.fd,I O o.fw,I O o.fk,I O o.fq,.slice o.fa o.fn o.fc]] w fun e w'=>e=.returned (.bool true)/\yK p w w':=by
 obtain⟨t,ht,C⟩:=jN p.th {o with kd:=7} ha Z h.twf hl
 refine(jR p h o 7 rfl t (fun V s=>C V p.po p.i.x p.d p.c p.ct p.mv p.td p.ep (h.later s).head (h.later s).told) (Zt p (p.rm.commit t.ep t.num).1 ju (p.rm.commit t.ep t.num).2) (fun V s=>?_) ?_ ?_).mono ?_
 ·have n:=h.later s
  have z:∀X,D V.1.size V X->Calls prog 18 #[.pointer (Q ⟨p.i.x,0,E⟩),.agg #[I O t.ep,I O t.num]] X fun e m=>∃(f:Int) (m':MS),e=.returned (I O f)/\zy m p.i p.c p.ep m'/\zk (zU p.i) X m/\Zt p (p.rm.commit t.ep t.num).1 ju (p.rm.commit t.ep t.num).2 ju f m':=fun X r=>by
   have W:=(n.later r).mill
   refine(zaI W h.sim t ht).mono fun e m ⟨m',j,u,g,k,T⟩=>?_
   exact⟨_,m',j,u,g,rfl,rfl,k,T⟩
  have F:=zhn p.c n.head (n.apart _ (.inl rfl)) n.mill.foot_lt {o with te:=t.ep,tn:=t.num} t.ep t.num (fun f m'=>Zt p (p.rm.commit t.ep t.num).1 ju (p.rm.commit t.ep t.num).2 ju f m') z
  exact F.mono fun e m ⟨f,m',j,u,g,k⟩=>⟨ju,f,m',j,u,g,k⟩
 ·rintro jb f m' ⟨rfl,rfl,g,k⟩
  refine⟨_,g,fun B q V tv nv pv gv kv A y U=>?_⟩
  exact zkC A {o with te:=t.ep,tn:=t.num} t.ep t.num (fun X r=>JR (A.later r) y (M U r.size) h.sim t)
 ·rintro jb f m' ⟨rfl,rfl,g,k⟩
  exact zhp _ _ _
 ·rintro e w' ⟨j,p',G,H,a3,a4,J,K,⟨jb,f,L⟩,R,S⟩
  exact⟨j,p',G,H,J,K,L.2.2.2,R,S⟩
theorem zlt(p:PD){w:Y}(h:p.at w)(o:Ops)(Z: -9223372036854775808<=o.a/\o.a<=9223372036854775807)(W:(⟨o.te,o.tn⟩:Tok).wf)(hl:p.th.length<=1099511627776):
  Calls prog 55 #[.pointer (Q ⟨p.po,0,E⟩),.agg #[I O 8,I O o.on,I O o.a,I O o.b,I O o.c,I i32 o.v,I O o.te,I O o.tn,I O o.fs,I O o.fe,I O o.fd,I O o.fw,I O o.fk,I O o.fq,.slice o.fa o.fn o.fc]] w fun e w'=>e=.returned (.bool true)/\yK p w w':=by
 obtain⟨t,ht,C⟩:=jN p.th {o with kd:=8} Z W h.twf hl
 refine(jR p h o 8 rfl t (fun V r=>C V p.po p.i.x p.d p.c p.ct p.mv p.td p.ep (h.later r).head (h.later r).told) (Zt p (p.rm.fail t.ep t.num).1 ju (p.rm.fail t.ep t.num).2) (fun V r=>?_) ?_ ?_).mono ?_
 ·have n:=h.later r
  have z:∀X,D V.1.size V X->Calls prog 19 #[.pointer (Q ⟨p.i.x,0,E⟩),.agg #[I O t.ep,I O t.num]] X fun e m=>∃(f:Int) (m':MS),e=.returned (I O f)/\zy m p.i p.c p.ep m'/\zk (zU p.i) X m/\Zt p (p.rm.fail t.ep t.num).1 ju (p.rm.fail t.ep t.num).2 ju f m':=fun X u=>by
   have U:=(n.later u).mill
   refine(zeP U h.sim t ht).mono fun e m ⟨m',j,s,g,k,T⟩=>?_
   exact⟨_,m',j,s,g,rfl,rfl,k,T⟩
  have F:=zho p.c n.head (n.apart _ (.inl rfl)) n.mill.foot_lt {o with te:=t.ep,tn:=t.num} t.ep t.num (fun f m'=>Zt p (p.rm.fail t.ep t.num).1 ju (p.rm.fail t.ep t.num).2 ju f m') z
  exact F.mono fun e m ⟨f,m',j,s,g,k⟩=>⟨ju,f,m',j,s,g,k⟩
 ·rintro jb f m' ⟨rfl,rfl,g,k⟩
  refine⟨_,g,fun B q V tv nv pv gv kv A y hB=>?_⟩
  exact zkD A {o with te:=t.ep,tn:=t.num} t.ep t.num (fun X u=>zdN (A.later u) y h.sim t)
 ·rintro jb f m' ⟨rfl,rfl,g,k⟩
  exact zkE _ _ _
 ·rintro e w' ⟨j,p',G,H,a3,a4,J,K,⟨jb,f,L⟩,R,S⟩
  exact⟨j,p',G,H,J,K,L.2.2.2,R,S⟩
theorem PD.at.asked{p:PD}{w Z:Y}(h:p.at w)(b:p.at Z)(B:w.1.size<=Z.1.size){g cap:Nat}(A:w.1.size<=g)(j:Z.ownsRow 0 108 1 (.slice (Q ⟨g,0,E⟩) 1 cap) 1 [.pointer (Q ⟨p.r,0,E⟩)]):
  ∃n:PD,n.at (Z.setCell ⟨p.po,9,E⟩ (.slice (Q ⟨g,0,E⟩) 1 cap))/\n.po=p.po/\n.ep=p.ep/\n.th=p.th/\n.m=p.m/\(∀k,n.foot k->p.foot k\/w.1.size<=k)/\zk (fun k=>k=p.po) Z (Z.setCell ⟨p.po,9,E⟩ (.slice (Q ⟨g,0,E⟩) 1 cap)):=by
 have f:zk (fun k=>k=p.po) Z (Z.setCell ⟨p.po,9,E⟩ (.slice (Q ⟨g,0,E⟩) 1 cap)):=zn (zk.refl _ _) rfl
 have u:(Z.setCell ⟨p.po,9,E⟩ (.slice (Q ⟨g,0,E⟩) 1 cap)).1[p.po]?=Q (zw p.i.x p.d p.c p.ct (.slice (Q ⟨g,0,E⟩) 1 cap) p.td p.ep):=by
  have y:=b.head
  unfold zw at y ⊢
  exact xm (i:=9) y _
 have z:=zd h.head
 have o:=h.foot_lt
 have s:=b.apart p.po (.inl rfl)
 have t:∀k,vP p.r p.rt p.nv p.pv p.gv p.kv k->¬k=p.po:=fun k a e=>by
  subst e
  have v:=b.head
  unfold zw at v
  rcases a with a|a|a|a|a|a
  ·have:=b.ref.head;rw[<-a,v]at this;injection this with this;injection this with _ this;exact absurd this (by decide)
  ·exact xE b.head b.ref.trow (by decide) a
  ·exact xE b.head b.ref.nrow (by decide) a
  ·exact xE b.head b.ref.prow (by decide) a
  ·exact xE b.head b.ref.grow (by decide) a
  ·exact xE b.head b.ref.krow (by decide) a
 refine⟨⟨p.po,p.d,p.r,p.i,p.c,p.ct,.slice (Q ⟨g,0,E⟩) 1 cap,p.td,p.fs,p.ep,p.m,p.th,p.B0,p.B1,p.rm,p.rt,p.nv,p.pv,p.gv,p.kv⟩,⟨u,b.mill.kept f (fun k a e=>s (by rw[<-e];exact a)),b.disk.kept f (fun k a e=>(b.disk_apart k a).1 e),zi j f (fun k a e=>by subst e;exact xE b.head j (by decide) a),zi b.told f (fun k a e=>by subst e;exact xE b.head b.told (by decide) a),b.ref.kept f (fun k a e=>t k a e),b.hap,b.sim,b.twf,fun k a=>?_⟩,rfl,rfl,rfl,rfl,fun k a=>?_,f⟩
 ·rcases a with a|a|a|a|a
  ·exact b.apart k (.inl a)
  ·exact b.apart k (.inr (.inl a))
  ·have q:g=k:=Option.some.inj a
   exact fun e=>by have:=o k (.inl e);omega
  ·exact b.apart k (.inr (.inr (.inr (.inl a))))
  ·exact b.apart k (.inr (.inr (.inr (.inr a))))
 ·rcases a with a|a|a|a|a|a
  ·exact .inl (.inl a)
  ·exact .inl (.inr (.inl a))
  ·exact .inl (.inr (.inr (.inl a)))
  ·have q:g=k:=Option.some.inj a
   exact .inr (by omega)
  ·exact .inl (.inr (.inr (.inr (.inr (.inl a)))))
  ·exact .inl (.inr (.inr (.inr (.inr (.inr a)))))
theorem zlm(p:PD){w:Y}(h:p.at w)(wb:Nat)(o:Ops):
  Calls prog 56 #[.pointer (Q ⟨wb,0,E⟩),.pointer (Q ⟨p.po,0,E⟩),.agg #[I O 5,I O o.on,I O o.a,I O o.b,I O o.c,I i32 o.v,I O o.te,I O o.tn,I O o.fs,I O o.fe,I O o.fd,I O o.fw,I O o.fk,I O o.fq,.slice o.fa o.fn o.fc]] w fun e w'=>e=.returned (.bool true)/\yK p w w':=by
 obtain⟨j,q,n⟩:=h.sim.stats
 have F:=h.sim.ubound
 have C:=h.sim.sok.ok.seg.len400 h.sim.ok
 refine(zaz (wb:=wb) h.head h.may o (now:=p.m.now) (U:=xg p.m.L) (T:=yQ (yx (xg p.m.L) p.c.qu)) (A1:=xU p.m.L 1) (A2:=xU p.m.L 2) (A3:=xU p.m.L 3) (A4:=p.m.Gl.length) (fun V d=>Ku (h.later d).mill h.sim.ok (by omega) (by omega)) (fun V d=>?_)).mono ?_
 ·have J:=h.sim.len;have K:=h.sim.glen;have R:=h.sim.plen
  refine(zgv (h.later d).ref h.sim.hokr (by omega) (by omega) (by omega) h.sim.nu (by omega)).mono fun e H ⟨i,A⟩=>⟨?_,A⟩
  rw[i,j,q,n,h.sim.tie.now,h.sim.epo]
 ·rintro e w' ⟨i,Z,g,cap,rfl,d,f,B⟩
  obtain⟨G,r,s,t,u,x,y,z⟩:=h.asked (h.later d) d.size B f
  exact⟨i,G,r,s,t,by rw[u];omega,by rw[x];omega,y,((zk.of_below d).trans z (fun k _ e=> .inr (.inl e)))⟩
theorem zll(p:PD){w:Y}(h:p.at w)(wb:Nat)(o:Ops):
  Calls prog 56 #[.pointer (Q ⟨wb,0,E⟩),.pointer (Q ⟨p.po,0,E⟩),.agg #[I O 4,I O o.on,I O o.a,I O o.b,I O o.c,I i32 o.v,I O o.te,I O o.tn,I O o.fs,I O o.fe,I O o.fd,I O o.fw,I O o.fk,I O o.fq,.slice o.fa o.fn o.fc]] w fun e w'=>e=.returned (.bool true)/\yK p w w':=by
 have d:∀(Q1 Q2 Q3 Q4 t:Int),(∀V,D w.1.size w V->Calls prog 60 #[.pointer (Q ⟨p.i.x,0,E⟩),I O o.a,I O o.b,I O o.c] V fun e m=>e=.returned (.tuple #[.agg #[I O Q1,I O Q2,I i32 Q3,I i32 Q4],I O t])/\D V.1.size V m)->(∀V,D w.1.size w V->Calls prog 107 #[.pointer (Q ⟨p.r,0,E⟩),I O o.a,I O o.b,I O o.c] V fun e m=>e=.returned (.tuple #[.agg #[I O Q1,I O Q2,I i32 Q3,I i32 Q4],I O t])/\D V.1.size V m)->Calls prog 56 #[.pointer (Q ⟨wb,0,E⟩),.pointer (Q ⟨p.po,0,E⟩),.agg #[I O 4,I O o.on,I O o.a,I O o.b,I O o.c,I i32 o.v,I O o.te,I O o.tn,I O o.fs,I O o.fe,I O o.fd,I O o.fw,I O o.fk,I O o.fq,.slice o.fa o.fn o.fc]] w fun e w'=>e=.returned (.bool true)/\yK p w w':=fun Q1 Q2 Q3 Q4 t y z=>by
  refine(zay (wb:=wb) h.head h.may o y z).mono ?_
  rintro e w' ⟨q,Z,g,cap,rfl,j,s,K⟩
  obtain⟨L,A,B,C,F,G,H,J⟩:=h.asked (h.later j) j.size K s
  exact⟨q,L,A,B,C,by rw[F];omega,by rw[G];omega,H,((zk.of_below j).trans J (fun k _ e=> .inr (.inl e)))⟩
 have R:=h.sim.len;have S:=h.sim.glen;have T:=h.sim.plen
 by_cases j:o.a< -1\/p.c.n<=o.a\/o.b<0\/4<=o.b\/o.c<0\/100000<o.c
 ·refine d 0 0 0 0 2 (fun V f=>zdl (h.later f).mill h.sim.ok o.a o.b o.c j) (fun V f=>?_)
  refine(KJ (h.later f).ref h.sim.hokr (by omega) (by omega) (by omega) h.sim.nu h.sim.time o.a o.b o.c).mono fun e m ⟨q,u⟩=>⟨?_,u⟩
  rw[q,vg (by rw[h.sim.tie.hc];exact j)]
  rfl
 ·refine d _ _ _ _ _ (fun V f=>zdk (h.later f).mill h.sim.ok h.sim.sok.ok.now o.a o.b o.c (by omega) (by omega) (by omega)) (fun V f=>?_)
  refine(KJ (h.later f).ref h.sim.hokr (by omega) (by omega) (by omega) h.sim.nu h.sim.time o.a o.b o.c).mono fun e m ⟨q,u⟩=>⟨?_,u⟩
  rw[q,h.sim.query (by rw[h.sim.tie.hc];exact j)]
  rfl
theorem zfc{c:Cf}{ep:Int}{m:MS}{r:RM}(a:xR c ep m r){ts:List Tsk}(h:ZL m.TL ts):ts.flatMap (Xn m.QL)=r.tg.flatMap tkV/\ts.length=r.tg.length:=by
 obtain⟨b,d,f,g⟩:=a.tsk
 have e:ts=b:=h.one ⟨d,f⟩ (fun p i=>(a.sok.ok.tg p i).key) a.sok.ok.nt
 subst e
 rw[g,List.length_map,List.flatMap_map]
 exact⟨rfl,rfl⟩
theorem zln(p:PD){w:Y}(h:p.at w){wb B:Nat}(o:Ops){pv i:P}{z:List P}{q:Nat}(x:w.1[wb]?=Q (.cells #[pv,i] 63 (0,0)))(g:Zc B w i z q)(d:B<=wb)(u:q+1<=1099511627776):
  Calls prog 56 #[.pointer (Q ⟨wb,0,E⟩),.pointer (Q ⟨p.po,0,E⟩),.agg #[I O 9,I O o.on,I O o.a,I O o.b,I O o.c,I i32 o.v,I O o.te,I O o.tn,I O o.fs,I O o.fe,I O o.fd,I O o.fw,I O o.fk,I O o.fq,.slice o.fa o.fn o.fc]] w fun e w'=>e=.returned (.bool true)/\KV B w wb p.po p.r pv i q w':=by
 have C:=h.sim.klen
 refine(zcI h.head h.may o (ts:=p.rm.tg) (by omega) x g d u (fun V f=>?_) (fun V f=>zgg (h.later f).ref (by omega))).mono fun e w' t=>t
 refine(zfw (h.later f).mill h.sim.sok.ok.jobs (by have:=h.sim.sok.ok.t800 h.sim.ok;omega)).mono ?_
 rintro e A ⟨ts,a,cap,s,m,j,n⟩
 obtain⟨y,k⟩:=zfc h.sim s
 refine⟨_,m,?_,n⟩
 rw[y,k]at j
 rw[k]
 exact j
def VZ(t:TypeId):Prop:=t=63\/t=103\/t=55\/t=51
theorem PD.at.not_law{p:PD}{w:Y}(h:p.at w){k:Nat}{cs:Array P}{t:TypeId}(d:w.1[k]?=Q (.cells cs t (0,0)))(o:VZ t):¬p.foot k:=fun a=>by
 have no:∀c f,w.1[k]?=Q (.cells c f (0,0))->¬VZ f->False:=fun c f b n=>by
  rw[d]at b;injection b with b;injection b with _ b;exact n (b▸o)
 have row:∀{B size n:Nat} {e:TypeId} {v:P} {xs:List P},w.ownsRow B e size v n xs->v.ownBlock=Q k->¬VZ e->False:=fun m hv n=>by
  obtain⟨i,j⟩:=zO m hv;exact no _ _ j n
 rcases a with a|a|a|a|a|a
 ·rcases a with a|a|a
  ·subst a;exact no _ _ h.mill.head (by unfold VZ;decide)
  ·rcases a with a|a|a|a
   ·subst a;exact no _ _ h.mill.set.head (by unfold VZ;decide)
   ·exact row h.mill.set.trow a (by unfold VZ;decide)
   ·exact qg (yW.1 h.mill.set.live) d a.symm
   ·exact qg h.mill.set.gone d a.symm
  ·rcases a with a|a|a
   ·subst a;exact no _ _ h.mill.board.head (by unfold VZ;decide)
   ·exact qg h.mill.board.tg d a.symm
   ·exact qg h.mill.board.leases d a.symm
 ·subst a;have g:=h.head;unfold zw at g;exact no _ _ g (by unfold VZ;decide)
 ·rcases a with a|a
  ·subst a;exact no _ _ h.disk.head (by unfold VZ;decide)
  ·exact row h.disk.row a (by unfold VZ;decide)
 ·exact row h.may a (by unfold VZ;decide)
 ·exact row h.told a (by unfold VZ;decide)
 ·rcases a with a|a|a|a|a|a
  ·subst a;exact no _ _ h.ref.head (by unfold VZ;decide)
  ·exact row h.ref.trow a (by unfold VZ;decide)
  ·exact row h.ref.nrow a (by unfold VZ;decide)
  ·exact row h.ref.prow a (by unfold VZ;decide)
  ·exact row h.ref.grow a (by unfold VZ;decide)
  ·exact row h.ref.krow a (by unfold VZ;decide)
theorem Zc.kept{f:Nat->Prop}{B:Nat}{w w':Y}{i:P}{g:List P}{q:Nat}(h:Zc B w i g q)(e:zk f w w')(hn:∀k cs t,w.1[k]?=Q (.cells cs t (0,0))->(t=55\/t=51)->¬f k):Zc B w' i g q:=
 ⟨zi h.row e (fun k b=>by obtain⟨a,c⟩:=zO h.row b;exact hn _ _ _ c (.inl rfl)),h.four,fun j v o=>by
  obtain⟨n,m,d⟩:=h.marks j v o
  exact⟨n,m,zi d e (fun k b=>by obtain⟨a,c⟩:=zO d b;exact hn _ _ _ c (.inr rfl))⟩⟩
structure Inv(B:Nat)(w:Y)(wb:Nat)(pv lv:P)(ps:List PD)(kn:List P)(q:Nat):Prop where
 head:w.1[wb]?=Q (.cells #[pv,lv] 63 (0,0))
 row:w.ownsRow B 103 1 pv (ps.map PD.po).length ((ps.map PD.po).map (fun q=> .pointer (Q ⟨q,0,E⟩)))
 lists:Zc B w lv kn q
 all:∀p∈ps,p.at w/\(∀k,p.foot k->B<=k)/\p.ep=1
 apart:ps.Pairwise (fun p q=>∀k,p.foot k->¬q.foot k)
theorem Inv.later{B:Nat}{w w':Y}{wb:Nat}{pv d:P}{ps:List PD}{c:List P}{q:Nat}(h:Inv B w wb pv d ps c q)(a:D w.1.size w w'):Inv B w' wb pv d ps c q:=
 ⟨(a.block wb (zd h.head)).trans h.head,zi h.row (zk.of_below (f:=fun _=>False) a) (fun _ _ e=>e),h.lists.later a,fun p b=>⟨(h.all p b).1.later a,(h.all p b).2⟩,h.apart⟩
theorem Inv.upd{B:Nat}{w w':Y}{wb:Nat}{pv F:P}{o r:List PD}{p i:PD}{C:List P}{q:Nat}(h:Inv B w wb pv F (o++p::r) C q){S:Nat}(L:B<=S)(A:∀z∈o++p::r,∀k,z.foot k->k<S)(v:i.at w')(V:i.po=p.po)(T:i.ep=p.ep)(g:∀k,i.foot k->p.foot k\/S<=k)(m:zk p.foot w w'):Inv B w' wb pv F (o++i::r) C q:=by
 have n:=h.all p (by simp)
 have j:=h.apart
 rw[List.pairwise_append,List.pairwise_cons]at j
 obtain⟨G,⟨x,H⟩,s⟩:=j
 have K:(o++i::r).map PD.po=(o++p::r).map PD.po:=by simp[V]
 refine⟨m.heap h.head (n.1.not_law h.head (.inl rfl)),?_,?_,?_,?_⟩
 ·rw[K]
  exact zi h.row m (fun k R=>by obtain⟨J,u⟩:=zO h.row R;exact n.1.not_law u (.inr (.inl rfl)))
 ·exact h.lists.kept m (fun k cs t u W=>n.1.not_law u (W.elim (fun e=> .inr (.inr (.inl e))) (fun e=> .inr (.inr (.inr e)))))
 ·intro z a
  rcases List.mem_append.1 a with a|a
  ·have f:=h.all z (by simp[a])
   exact⟨f.1.kept m (fun k g=>s z a p (by simp) k g),f.2⟩
  ·rcases List.mem_cons.1 a with rfl|a
   ·refine⟨v,fun k b=>?_,T.trans n.2.2⟩
    rcases g k b with b|b
    ·exact n.2.1 k b
    ·omega
   ·have f:=h.all z (by simp[a])
    exact⟨f.1.kept m (fun k g U=>x z a k U g),f.2⟩
 ·rw[List.pairwise_append,List.pairwise_cons]
  refine⟨G,⟨fun z a k c d=>?_,H⟩,fun z a y f=>?_⟩
  ·have:=A z (by simp[a]) k d
   rcases g k c with b|b
   ·exact x z a k b d
   ·omega
  ·rcases List.mem_cons.1 f with rfl|f
   ·intro k c d
    have:=A z (by simp[a]) k c
    rcases g k d with b|b
    ·exact s z a p (by simp) k c b
    ·omega
   ·exact s z a y (by simp[f])
theorem Inv.more{B:Nat}{w w':Y}{wb:Nat}{pv s:P}{ps:List PD}{x:List P}{q:Nat}(h:Inv B w wb pv s ps x q)(W:B<=w.1.size)(S:zca w wb B pv s (ps.map PD.po) w'):∃p d,Inv B w' wb d s (ps++[p]) x q/\p.th=[]/\p.m.num=0/\zk (fun k=>k=wb\/pv.ownBlock=Q k) w w':=by
 obtain⟨p,d,C,F,G,H,J,K,v,j,V⟩:=S
 have f:∀k,k=wb\/pv.ownBlock=Q k->∃cs t,w.1[k]?=Q (.cells cs t (0,0))/\(t=63\/t=103):=fun k e=>by
  rcases e with rfl|e
  ·exact⟨_,_,h.head,.inl rfl⟩
  ·obtain⟨A,n⟩:=zO h.row e;exact⟨_,_,n,.inr rfl⟩
 refine⟨p,d,⟨J,by simpa using K,h.lists.kept j (fun k cs t n T e=>?_),fun z c=>?_,?_⟩,G,by rw[F],j⟩
 ·obtain⟨i,U,a,b⟩:=f k e
  rw[n]at a;injection a with a;injection a with _ a
  subst a
  rcases T with rfl|rfl<;>rcases b with u|u<;>exact absurd u (by decide)
 ·rcases List.mem_append.1 c with c|c
  ·have g:=h.all z c
   refine⟨g.1.kept j (fun k L e=>?_),g.2⟩
   obtain⟨i,U,a,b⟩:=f k e
   exact g.1.not_law a (b.elim .inl (fun e=> .inr (.inl e))) L
  ·obtain rfl:=List.mem_singleton.1 c
   exact⟨C,fun k R=>by have:=v k R;omega,H⟩
 ·rw[List.pairwise_append]
  refine⟨h.apart,List.pairwise_singleton _ _,fun z c y g k o r=>?_⟩
  obtain rfl:=List.mem_singleton.1 g
  have:=(h.all z c).1.foot_lt k o
  have:=v k r
  omega
theorem Inv.ask{B:Nat}{w w':Y}{wb:Nat}{pv x:P}{n o:List PD}{p:PD}{kn:List P}{q:Nat}(h:Inv B w wb pv x (n++p::o) kn q)(hB:B<=w.1.size)(hm:KV B w wb p.po p.r pv x q w'):∃s c b,Inv B w' wb pv c (n++s::o) b (q+1)/\s.th=p.th/\s.m=p.m/\zk (fun k=>k=wb\/x.ownBlock=Q k\/k=p.po) w w':=by
 obtain⟨c,b,Z,g,cap,rfl,U,V,u,h4,W,X⟩:=hm
 have i:∀k,k=wb\/x.ownBlock=Q k->∃cs t,w.1[k]?=Q (.cells cs t (0,0))/\(t=63\/t=55):=fun k e=>by
  rcases e with rfl|e
  ·exact⟨_,_,h.head,.inl rfl⟩
  ·obtain⟨A,C⟩:=zO h.lists.row e;exact⟨_,_,C,.inr rfl⟩
 have j:∀z∈n++p::o,z.at Z:=fun z j=>(h.all z j).1.kept u (fun k F e=>by
  obtain⟨y,t',a,f⟩:=i k e
  exact(h.all z j).1.not_law a (f.elim .inl (fun e=> .inr (.inr (.inl e)))) F)
 have hI:Inv B Z wb pv c (n++p::o) b (q+1):=by
  refine⟨V,zi h.row u (fun k hb e=>?_),U,fun z v=>⟨j z v,(h.all z v).2⟩,h.apart⟩
  obtain⟨y,t',a,f⟩:=i k e
  obtain⟨A,C⟩:=zO h.row hb
  rw[C]at a;injection a with a;injection a with _ a
  subst a
  rcases f with H|H<;>exact absurd H (by decide)
 have d:p∈n++p::o:=by simp
 obtain⟨s,J,K,L,R,S,T,G⟩:=(h.all p d).1.asked (j p d) u.size X W
 exact⟨s,c,b,hI.upd hB (fun z v k F=>(h.all z v).1.foot_lt k F) J K L T (G.mono (fun k _ e=> .inr (.inl e))),R,S,(u.mono (fun k _ e=>e.elim .inl (fun e=> .inr (.inl e)))).trans G (fun k _ e=> .inr (.inr e))⟩
def Xu(w:Y)(k:Nat)(W:Y):Prop:=∃pv b ps a q,Inv w.1.size W w.1.size pv b ps a q/\ps.length<=k/\q<=k/\(∀p∈ps,p.th.length<=k/\p.m.num<=(k:Int))/\D w.1.size w W
theorem zjo{p:PD}{w:Y}(h:p.at w):w.cell? ⟨p.po,14,E⟩=Q (.bool false):=by
 have a:=h.head
 unfold zw at a
 rw[zN a];rfl
theorem zkG{W:Y}{a:Nat}(h:W.1[a]?=Q (.cells #[I O (-1),I O 1,I O 0] 66 (0,0))):TS W (Q ⟨a,0,E⟩) 1 (fun _=> -1) (fun _=>1) (fun _=>0):=fun _=>by
 refine⟨a,0,rfl,zd h,fun i b=>?_⟩
 obtain rfl:i=0:=by omega
 exact⟨by rw[zN h];rfl,by rw[zN h];rfl,by rw[zN h];rfl⟩
theorem JU:xF 1 1 0 1 0 9 1 (fun _=> -1) (fun _=>1) (fun _=>0)=true:=by decide
theorem Xu.later{w W a:Y}{k:Nat}(h:Xu w k W)(b:D W.1.size W a):Xu w k a:=by
 obtain⟨pv,j,ps,i,q,d,e,f,g,c⟩:=h
 exact⟨pv,j,ps,i,q,d.later b,e,f,g,c.trans (b.mono c.size)⟩
theorem Xu.next{w W:Y}{k:Nat}(h:Xu w k W):Xu w (k+1) W:=by
 obtain⟨pv,f,ps,e,q,a,g,i,d,b⟩:=h
 exact⟨pv,f,ps,e,q,a,by omega,by omega,fun p c=>by have:=d p c;omega,b⟩
theorem zbR{w W w':Y}{k:Nat}{pv n:P}{b c:List PD}{p:PD}{i:List P}{q:Nat}(h:Inv w.1.size W w.1.size pv n (b++p::c) i q)(v:(b++p::c).length<=k)(G:q<=k)(f:∀z∈b++p::c,z.th.length<=k/\z.m.num<=(k:Int))(d:D w.1.size w W)(y:yK p W w'):Xu w (k+1) w':=by
 obtain⟨B,o,r,s,C,F,t,g⟩:=y
 have x:=h.all p (by simp)
 have A:=f p (by simp)
 refine⟨pv,n,b++B::c,i,q,h.upd d.size (fun z a k u=>(h.all z a).1.foot_lt k u) o r s t g,by simp at v ⊢;omega,by omega,fun z a=>?_,d.trans (g.below d.size (fun j e=>x.2.1 j e))⟩
 rcases List.mem_append.1 a with a|a
 ·have:=f z (by simp[a]);omega
 ·rcases List.mem_cons.1 a with rfl|a
  ·omega
  ·have:=f z (by simp[a]);omega
theorem zhy{w W w':Y}{k:Nat}{pv n:P}{b c:List PD}{p:PD}{B:List P}{q:Nat}(h:Inv w.1.size W w.1.size pv n (b++p::c) B q)(v:(b++p::c).length<=k)(F:q<=k)(f:∀z∈b++p::c,z.th.length<=k/\z.m.num<=(k:Int))(d:D w.1.size w W)(y:KV w.1.size W w.1.size p.po p.r pv n q w'):Xu w (k+1) w':=by
 obtain⟨C,i,g,t,o,s,u⟩:=h.ask d.size y
 have x:=h.all p (by simp)
 have A:=f p (by simp)
 refine⟨pv,i,b++C::c,g,q+1,t,by simp at v ⊢;omega,by omega,fun z a=>?_,d.trans (u.below d.size (fun j e=>?_))⟩
 ·rcases List.mem_append.1 a with a|a
  ·have:=f z (by simp[a]);omega
  ·rcases List.mem_cons.1 a with rfl|a
   ·rw[o,s];omega
   ·have:=f z (by simp[a]);omega
 ·rcases e with rfl|e|rfl
  ·exact N _
  ·exact Vu h.lists.row e
  ·exact x.2.1 _ (.inr (.inl rfl))
theorem zcU{w W:Y}{k:Nat}(o:Ops)(y:o.fits)(F d K:Nat->Int)(m:TS w o.fa o.fn F d K)(H:k+1<=1099511627776)(r:Xu w k W):
  Calls prog 20 #[.pointer (Q ⟨w.1.size,0,E⟩),.agg #[I O o.fs,I O o.fe,I O o.fd,I O o.fw,I O o.fk,I O o.fq,.slice o.fa o.fn o.fc],I O (-1)] W fun e w'=>e=.returned (.bool true)/\Xu w (k+1) w':=by
 have h:=r
 obtain⟨pv,G,ps,C,q,f,J,L,B,a⟩:=r
 have b:=m.below a
 cases i:xF o.fs o.fe o.fd o.fw o.fk o.fq o.fn F d K with
 |false=>
  exact(zdr ⟨o.fs,o.fe,o.fd,o.fw,o.fk,o.fq,o.fn,F,d,K⟩ y.size i o.fa o.fc w.1.size W b).mono fun e w' ⟨g,s⟩=>⟨g,(h.later s).next⟩
 |true=>
  refine(Yn ⟨o.fs,o.fe,o.fd,o.fw,o.fk,o.fq,o.fn,F,d,K⟩ (VD i) i o.fa o.fc w.1.size W b f.head a.size f.row (by simp[maxLen];omega) (by simp;omega)).mono ?_
  rintro e w' ⟨g,A⟩
  obtain⟨p,n,t,u,v,x⟩:=f.more a.size A
  refine⟨g,n,G,ps++[p],C,q,t,by simp;omega,by omega,fun z c=>?_,a.trans (x.below a.size (fun j e=>?_))⟩
  ·rcases List.mem_append.1 c with c|c
   ·have:=B z c;omega
   ·obtain rfl:=List.mem_singleton.1 c
    rw[u,v];simp;omega
  ·rcases e with rfl|e
   ·exact N _
   ·exact Vu f.row e
theorem zby(w:Y)(n:Nat)(G:Nat->Ops)(T:Nat->(Nat->Int)×(Nat->Int)×(Nat->Int))(la:Int)(a4:la<=9)(hn:n<=1099511627776)(hT:∀i,i<n->TS w (G i).fa (G i).fn (T i).1 (T i).2.1 (T i).2.2)(hG:∀i,i<n->(G i).fits):
  zkp w n G la (Xu w) where
 low:=fun k W ⟨_,_,_,_,_,_,_,_,_,h⟩=>h
 looks:=fun k W K ⟨pv,lv,ps,kn,q,u,U,V,C,x⟩=>zdf u.head u.lists (by omega)
 later:=fun k W W' h X=>h.later X
 next:=fun k W h=>h.next
 start:=fun W x hw=>⟨_,_,[],[],0,⟨hw,World.ownsRow_nil _ _ _ _,⟨World.ownsRow_nil _ _ _ _,rfl,fun j v hj=>by simp at hj⟩,(fun p A=>by cases A),List.Pairwise.nil⟩,N _,N _,(fun p A=>by cases A),x⟩
 fst:=fun W ta x hw C=>by
  refine(Yn ⟨1,1,0,1,0,9,1,fun _=> -1,fun _=>1,fun _=>0⟩ (VD JU) JU (Q ⟨ta,0,E⟩) 1 w.1.size W (zkG C) (ps:=[]) hw x.size (World.ownsRow_nil _ _ _ _) (by simp[maxLen]) (by simp)).mono ?_
  rintro e w' ⟨f,p,a7,F,h2,h3,y,h5,h6,h7,h8,h9⟩
  obtain⟨pa,pc,rfl⟩:=zq h6
  refine⟨f,x.trans (h8.below x.size (fun j e=>?_)),pa,pc,h5⟩
  rcases e with rfl|e
  ·exact N _
  ·cases e
 opens:=fun k W K F S=>by
  rw[F]
  refine zlI (G k) _ (fun r o=>?_)
  exact zcU (G k) (hG k K) _ _ _ (hT k K) (by omega) (S.later o)
 steps:=fun k W K F a5 S=>by
  have H:=S
  obtain⟨pv,lv,ps,kn,q,u,U,V,C,x⟩:=S
  have b:=hG k K
  have s:(⟨(G k).te,(G k).tn⟩:Tok).wf:=⟨b.te,b.tn⟩
  by_cases h0:ps=[]
  ·subst h0
   have a3:=u
   obtain⟨pa,pc,R⟩:=zq u.row
   simp at R
   subst R
   exact(zim u.head (G k) (G k).kd F (by omega)).mono fun e w' ⟨f,d⟩=>⟨f,(H.later d).next⟩
  ·have L:0<ps.length:=List.length_pos_iff.2 h0
   obtain⟨i,hi,a1⟩:=zfQ (G k).on (ps.map PD.po).length b.on (by simpa using L)
   have J:i<ps.length:=by simpa using hi
   have a0:(ps.map PD.po)[i]?=Q ps[i].po:=by simp[J]
   have t:ps[i]∈ps:=List.getElem_mem J
   generalize ps[i]=p at*
   obtain⟨l1,l2,rfl⟩:=List.append_of_mem t
   have A:=u.all p t
   have Z:=zjo A.1
   have a2:=zd A.1.head
   have a6:=C p t
   have z:∀r,D W.1.size W r->Inv w.1.size r w.1.size pv lv (l1++p::l2) kn q/\D w.1.size w r/\p.at r:=fun r y=>⟨u.later y,x.trans (y.mono x.size),A.1.later y⟩
   refine zjW u.head u.row a0 a2 Z (G k) a1 (Xu w (k+1)) (G k).kd F (by omega) (fun c r y=>?_) (fun c r y=>?_) (fun w' X=>(H.later X).next)
   ·obtain⟨m,o,g⟩:=z r y
    have B:=fun(w':Y) (d:yK p r w')=>zbR m U V C o d
    rcases c with c|c|c|c|c<;>rw[c]
    ·exact(zlp p g (G k) b.a s (by omega) b.v).mono fun e w' ⟨f,d⟩=>⟨f,B w' d⟩
    ·exact(zlq p g (G k) b.a s (by omega)).mono fun e w' ⟨f,d⟩=>⟨f,B w' d⟩
    ·exact(zlr p g (G k) b.a s (by omega) (by omega) A.2.2 (by omega)).mono fun e w' ⟨f,d⟩=>⟨f,B w' d⟩
    ·exact(zls p g (G k) b.a s (by omega)).mono fun e w' ⟨f,d⟩=>⟨f,B w' d⟩
    ·exact(zlt p g (G k) b.a s (by omega)).mono fun e w' ⟨f,d⟩=>⟨f,B w' d⟩
   ·obtain⟨m,o,g⟩:=z r y
    have B:=fun(w':Y) (d:yK p r w')=>zbR m U V C o d
    rcases c with c|c|c<;>rw[c]
    ·exact(zll p g _ (G k)).mono fun e w' ⟨f,d⟩=>⟨f,B w' d⟩
    ·exact(zlm p g _ (G k)).mono fun e w' ⟨f,d⟩=>⟨f,B w' d⟩
    ·exact(zln p g (G k) m.head m.lists (N _) (by omega)).mono fun e w' ⟨f,d⟩=>⟨f,zhy m U V C o d⟩
theorem zha(a:Option Addr)(n cap:Nat)(G:Nat->Ops)(T:Nat->(Nat->Int)×(Nat->Int)×(Nat->Int))(w:Y)(h:OS w a n G)(hn:n<=1099511627776)(c:∀i,i<n->TS w (G i).fa (G i).fn (T i).1 (T i).2.1 (T i).2.2)(b:∀i,i<n->(G i).fits):
  Calls prog 4 #[.slice a n cap] w fun e w'=>e=.returned (.bool true)/\D w.1.size w w':=by
 have d:=ze (zfU a n cap G 9 (by omega) w h hn _ (zby w n G T 9 (by omega) hn c b))
 clear h hn c b
 go_enter func4,ntmps4
 go_wp2_with(first|(go_at_call 9;refine(ud d).mono ?_;rintro e w' ⟨rfl,f⟩)|fail)
 go_ret
 exact⟨rfl,f⟩
end Go.Proofs.YtpbimdkclnekeaaGreat
namespace Go.Proofs.YtpbimdkclnekeaaGreat
open Go.ChangeShapes Go.WideShapes Go.ChangeAt Go.RowKit
theorem ziA:ownKnob prog.godebug=E:=by kernel_rfl
theorem zan:laidOutB prog=true:=by kernel_rfl
theorem zbx(os:Os)(c:os.Started)(H:Type)(enc:TypeId×P->H):
  ReturnsInHanded {} Tryz.checked os 4 .any (Rows.worksSpec.pre6 enc prog Tryz.f4 Rows.worksRow.domain false) (Rows.worksSpec.post enc prog Tryz.f4 false true false false):=by
 refine returnsInHanded_of_change_sized (C:=Tryz.checked) ziA c (by kernel_rfl) func4
  (ChangeSpec.witness6 (enc:=enc) (C:=Tryz.checked) false ⟨#[],#[.slice E 0 0],[]⟩ 8 (by kernel_rfl) (by kernel_rfl) (by kernel_rfl) (by kernel_rfl)) ?_
 intro W base args J gs w b R S u _
 have f:∀(j:Nat) t v,Tryz.f4.params[j]?=Q t->args[j]?=Q v->Value.okWide prog W .any base t v:=b
 have s:(DataW.weightsEach prog (Tryz.f4.params.toList++Rows.worksSpec.plain.varTypes prog) (J++gs)).all (· <=reachBytes)=true:=u
 have z:=R
 obtain⟨p,q,k,hV,rfl,a2,a3⟩:=R
 have L:DataW.TrodAll enc prog W 0 (fun _=>true) true Tryz.f4.params.toList args.toList J p:=k
 rw[params4]at L f s
 obtain⟨Z,a4,d0,a1,X,q0,A,rfl,rfl,K,r0⟩:=trodAll_cons L
 obtain⟨rfl,rfl,rfl⟩:=trodAll_nil r0
 obtain rfl:args=#[Z]:=by cases args;simp_all
 obtain⟨rfl,rfl⟩:=trodVars_none hV
 obtain⟨F,g,d,rfl⟩:=okWide_slice underlying22 (f 0 22 Z rfl rfl)
 have V:=K
 have B:∀x∈X,x.block<W.1.size:=by obtain⟨m,hm⟩:=V;exact DataW.trod_lt m _ _ _ hm
 obtain⟨i,U⟩:=K
 have r:DataW.trod enc prog W 0 (fun _=>true) true i 22 [.slice F g d]=Q (d0,X):=by simpa[Value.cells]using U
 obtain⟨a,n,cap,G,T,o,has,hn,hT,hG⟩:=zhU r (fun y hy=>by
  have:=List.all_eq_true.1 s y (DataW.weights_mem_each (j:=0) rfl rfl y hy)
  simpa using this)
 simp at o
 obtain⟨rfl,rfl,rfl⟩:=o
 clear k b U r
 refine(zha F g d G T W has hn hT hG).mono fun e W' ⟨he,bel⟩=>?_
 subst he
 exact⟨_,rfl,_,_,_,[],_,[],z,trodAll_mk1 (shut_bool underlying4 _),(trodAll_cons_mk (Below.trod zan (by kernel_rfl) (of_decide_eq_true (by kernel_rfl)) V bel B) trodAll_mk0),rfl,bel.frame _,fun h=>by cases h⟩
theorem works_holds:Rows.WorksSaid:=
 OpenClaim.holds_of_wide 4 Tryz.f4 rfl rfl rfl rfl rfl rfl rfl ⟨rfl,rfl,rfl,rfl,rfl⟩ rfl rfl rfl rfl rfl (by kernel_rfl) func4 (by kernel_rfl)
  (of_decide_eq_true (by kernel_rfl)) (by unfold Func.isWrapper;first|(rw[if_pos (by decide+kernel)];kernel_rfl)|(rw[if_neg (by decide+kernel)];exact⟨rfl,rfl⟩))
  (fun os a H enc _=>zbx os a H enc)
#print axioms works_holds
end Go.Proofs.YtpbimdkclnekeaaGreat
