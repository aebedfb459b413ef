import Derived.Test.YtndhpgciopcncaaGreatDoorVCfg1
import Derived.Test.YtndhpgciopcncaaGreatDoorVStp1
import Derived.StillTactics
open Go.Value renaming int → I
open Go.IntKind renaming i64 → J
open Option renaming none → O
open Nat renaming le_trans → E
open Go.RowKit.Below renaming refl → Q
open Nat renaming le_refl → U
open Go.IntKind (i32)
set_option linter.unusedVariables false
set_option maxRecDepth 20000
set_option maxHeartbeats 8000000
namespace Go.Proofs.YtndhpgciopcncaaGreatDoor
open Go.RowKit Go.Maps Go.Shelf
def zik(w:World)(e:Ending)(w':World):Prop:=∃(c:Cf) (p:Nat),c.ok/\c.fits/\e=.returned (.pointer (some ⟨p,0,O⟩))/\vC w' w.1.size p c 1 ⟨0,[],[],0,[],[]⟩ [] 0/\Below w.1.size w w'
theorem zjJ{a b j:Nat}(d:a=b+2)(c:a<=j)(e:foot (b+1) (.slice O 0 0) j):False:=by
 rcases e with e|e
 ·omega
 ·cases e
theorem ZJ(s le la wi ke qu:Int)(a:Option Addr)(n cap:Nat)(F0 W0 K0:Nat->Int)(w:World)(f:Zz w)(h1: -9223372036854775808<=s/\s<=9223372036854775807)(h2: -9223372036854775808<=le/\le<=9223372036854775807)(h3: -9223372036854775808<=la/\la<=9223372036854775807)(h4: -9223372036854775808<=wi/\wi<=9223372036854775807)(h5: -9223372036854775808<=ke/\ke<=9223372036854775807)(h6: -9223372036854775808<=qu/\qu<=9223372036854775807)(a8:TS w a n F0 W0 K0)(hn:n<=140737488355328)(hF:∀i,i<n-> -9223372036854775808<=F0 i/\F0 i<=9223372036854775807)(hW:∀i,i<n-> -9223372036854775808<=W0 i/\W0 i<=9223372036854775807)(hK:∀i,i<n-> -9223372036854775808<=K0 i/\K0 i<=9223372036854775807):
  Calls Tryz.prog 12 #[.agg #[I J s,I J le,I J la,I J wi,I J ke,I J qu,.slice a n cap]] w (zik w):=by
 have a1:Below w.1.size w (w.alloc (.cells #[I J s,I J le,I J la,I J wi,I J ke,I J qu,.slice a n cap] 27)):=(Q _ _).alloc (U _) _
 have q0:=zk w (.cells #[I J s,I J le,I J la,I J wi,I J ke,I J qu,.slice a n cap] 27)
 have S:=fun W (hW:Below w.1.size w W)=>zd (zcn W (vx f hW))
 have X:=fun W (ah:Below w.1.size w W)=>zd (zaF s le la wi ke qu a n cap F0 W0 K0 W h1 h2 h3 h4 h5 h6 (a8.below ah) hn hF hW hK)
 have B:=zd a1
 have Q0:=zd q0
 have aj:=za q0
 clear a1 q0 h1 h2 h3 h4 h5 h6 a8 hF hW hK
 go_enter Tryz.func12,Tryz.ntmps12
 go_wp2_with(first
  |(go_at_call 36;refine(ud (S _ (ud B))).mono ?_;rintro e w1 ⟨rfl,G⟩;have x0:=(G.block _ aj).trans (ud Q0);obtain⟨r0,r1,r2,r3,r4,r5,r6,-⟩:=zc x0;have am:=za x0;have t:=zd ((ud B).trans (G.mono (ud B).size));clear G x0 S)
  |(go_at_call 37;refine(ud (X _ (ud t))).mono ?_;rintro e l ⟨c,g,D,hr,hf,rfl,ho,a2⟩;have HR:=zd hr;have HF:=zd hf;have C:=zd ho;have o:=zd ((ud t).trans (a2.mono (ud t).size));have ad:=zd (ud t).size;clear hr hf ho a2 X r0 r1 r2 r3 r4 r5 r6)
  |(go_at_call 38;refine(zdw w.1.size _ (E (ud o).size (by rw[zI];omega))).mono ?_;rintro e w3 ⟨rfl,hD,u,P⟩;have y:=(u.block l.1.size (by rw[zI];omega)).trans (zk l (.cells #[I J c.s,I J c.le,I J c.la,I J c.wi,I J c.ke,I J c.qu,.slice (some ⟨g,0,O⟩) c.n D] 27));obtain⟨s0,s1,s2,s3,s4,s5,s6,-⟩:=zc y;have a5:=za y;have N:=xm ((ud C).alloc (.cells #[I J c.s,I J c.le,I J c.la,I J c.wi,I J c.ke,I J c.qu,.slice (some ⟨g,0,O⟩) c.n D] 27)) u;have R:w3.1.size=l.1.size+2:=(by rw[P,zI]);have a3:zx 111 113 w.1.size w3 (l.1.size+1) Xd (.slice O 0 0):=(by rw[zI]at hD;exact hD);have Y:=zd (zaG c (Zq (ud HR)) (some ⟨g,0,O⟩) D w3 (TS.of_owns N));have HD:=zd a3;have V:=zd y;have ae:=zd N;have a0:=zd R;have p:=zd ((ud o).trans (((Q l.1.size l).alloc (U _) (.cells #[I J c.s,I J c.le,I J c.la,I J c.wi,I J c.ke,I J c.qu,.slice (some ⟨g,0,O⟩) c.n D] 27)).trans (u.mono (by rw[zI];omega))|>.mono (ud o).size));clear hD u P y N R a3)
  |(go_at_call 30;refine(ud Y).mono ?_;rintro e w4 ⟨g4,rfl,z,b⟩;have a6:=(b.block _ (za (ud V))).trans (ud V);have ai:=(z.form (show 0<c.n from(Zq (ud HR)).n1));have A:∀j,(Value.slice (some ⟨g4,0,O⟩) c.n c.n).ownBlock=some j->w3.1.size<=j:=(fun j v=>(z.lt j v).1);have Z:=zd (Vi c (Zq (ud HR)) (ud HF) (ud HR) (some ⟨g4,0,O⟩) c.n w.1.size (l.1.size+1) (.slice O 0 0) w4 (E (ud p).size b.size) ((ud HD).later b) (fun w' hk=>TS.of_owns (zg z hk (fun j v e=>zjJ (ud a0) (A j v) e))) (vx f ((ud p).trans (b.mono (ud p).size))) (fun k e=>(by have h9:=f.lt;have h8:=(ud o).size;rcases e with e|e;(rw[e];omega);cases e)));have a9:=zd a6;have af:=zd (xm (ud ae) b);have ag:Hid (w3.1.size<=w4.1.size):=b.size;have T:=zd ((ud p).trans (b.mono (ud p).size));clear z b a6 ai A Y s0 s1 s2 s3 s4 s5 s6 a5)
  |(go_at_call 29;refine(ud Z).mono ?_;rintro e m ⟨i,a4,rfl,hM,a7,r⟩;have d:zo (fun k=>k=l.1.size+1) w4 m:=a7.mono (fun k _ e=>(by rcases e with e|e;exact e;cases e));have M:=d.heap (ud a9) (by omega);obtain⟨t0,t1,t2,t3,t4,t5,t6,-⟩:=zc M;have al:=za M;have HM:=zd hM;have ab:=zd d;have aa:=zd a4;have ac:Hid (∀k,xb m i k->k=l.1.size+1\/w4.1.size<=k):=(fun k hk=>(by rcases r k hk with(e|e)|e;exact .inl e;cases e;exact .inr e));clear a4;clear hM a7 d r M Z))
 go_ret
 have hc:=Zq (ud HR)
 have d:=ud ab
 have P:=ud a0
 have R:=ud ag
 have an:=(ud o).size
 have ak:m.ownsRow _ 80 3 (.slice (some ⟨g,0,O⟩) c.n D) c.n (jv c.n c.F c.W c.K):=zg (ud af) d (fun j v e=>by have:=((ud C).lt j v).2;omega)
 have hA:Below m.1.size m (m.alloc (.cells #[.pointer (some ⟨i.x,0,O⟩),.pointer (some ⟨l.1.size+1,0,O⟩),I J c.s,I J c.le,I J c.la,I J c.wi,I J c.ke,I J c.qu,.slice (some ⟨g,0,O⟩) c.n D,I J 0,.slice O 0 0,.slice O 0 0,.slice O 0 0] 44)):=(Q _ _).alloc (U _) _
 have H:Below w.1.size w m:=(ud T).trans (d.below (ud T).size (fun k e=>by omega))
 have r:=ud ac
 have L:=(ud HM).below hA
 refine⟨c,m.1.size,hc,ud HF,rfl,⟨⟨m.1.size,i,l.1.size+1,.slice (some ⟨g,0,O⟩) c.n D,.slice O 0 0,.slice O 0 0,.slice O 0 0⟩,0,rfl,⟨zk _ _,(ud HM).later hA,xm (yu ak (ud ad)) hA,World.ownsRow_nil _ _ _ _,World.ownsRow_nil _ _ _ _,World.ownsRow_nil _ _ _ _,H.size,fun j v=>?_,fun j v hm=>?_,(ud aa).symm,f.lt⟩,rfl,SOk.new hc,U _,U _⟩,H.trans (hA.mono H.size)⟩
 ·rcases L.foot v with e|e
  ·rcases r j e with e|e<;>omega
  ·omega
 ·have h3:j<m.1.size->(j=l.1.size+1\/w4.1.size<=j)/\xb m i j:=fun hl=>by
   rcases L.foot hm with e|e
   ·exact⟨r j e,e⟩
   ·omega
  rcases v with e|e|e|e|e
  ·have e':j=m.1.size:=e
   rcases L.foot hm with h|h
   ·have:=(ud HM).foot_lt j h;omega
   ·obtain⟨q,txt,ns,hG⟩:=ud HM
    rw[e']at hm
    exact Zf hG.at_ hA hm
  ·have h4:=((ud C).lt j e).2
   have h5:=d.size
   rcases(h3 (by omega)).1 with h|h<;>omega
  ·cases e
  ·cases e
  ·cases e
theorem zbC{w:World}{B p:Nat}{c:Cf}{ep:Int}{m:MS}{ns:List Nm}{j k:Nat}(hs:Yh w B p c ep m ns j k)(S:c.ok)(hf:c.fits)(aE:xg ep)(kd a b v:Int)(i:Nat)(d:i<k)(r:Int)(aZ:(k:Int)-1-r=i)(r0:0<=r/\r<k)(PK:∀W:World,Calls Tryz.prog 31 #[I J a,I J k] W fun e w'=>e=.returned (I J r)/\w'=W)(hj:j<=4398046511104)(an:kd=5){g9:Lse}(a2:zY m.QL ⟨ep,(i:Int)+1⟩=some g9){x9:Tsk}(aw:zY m.TL g9.job=some x9)(av:g9.job.wf)(au:0<=x9.ti/\x9.ti<=1000000):
  Calls Tryz.prog 41 #[.pointer (some ⟨p,0,O⟩),.agg #[I J kd,I J a,I J b,I i32 v]] w fun e w'=>e=.returned (.bool true)/\jJ w w' B p c ep m ns j:=by
 have A:=hs.size
 obtain⟨⟨sp,si,sd,b3,b5,b4,b6⟩,rfl,h,hk,ho,aG,aH⟩:=hs
 dsimp only at*
 obtain⟨r0,r1⟩:=r0
 have b0:B<=sp:=h.lo
 have aI:=ho.ok.seg.u0 S
 have aO:=ho.ok.seg.len400 S
 have Y:Below w.1.size w (w.alloc (.cells #[I J kd,I J a,I J b,I i32 v] 33)):=(Q _ _).alloc (U _) _
 have q0:=zk w (.cells #[I J kd,I J a,I J b,I i32 v] 33)
 have q:=h.later Y
 obtain⟨g,gc,a3,aF,a0,a1⟩:=qK q.krow (j:=i) (by rw[zF];exact d)
 obtain⟨n,aD,x,am,a6,aJ⟩:=jn q.urow (j:=i) (by rw[zV];exact d)
 rw[zF]at a3
 rw[zV]at x
 dsimp only at a3 x
 subst a3
 subst x
 have t:(vW ep k)[i]'(by rw[zF];exact d)=⟨ep,(i:Int)+1⟩:=(List.getElem?_eq_some_iff.1 (ko ep k i d)).2
 have ak:(qV ep m.QL k)[i]'(by rw[zV];exact d)=vu m.QL ⟨ep,(i:Int)+1⟩:=(List.getElem?_eq_some_iff.1 (kM ep m.QL k i d)).2
 rw[t]at a0 a1
 rw[ak]at a6
 dsimp only at a0 a1
 have z:=(q.setUnt (g:=n) (cap:=aD) (by rw[zV]) i 0).later (Q _ _).drew
 obtain⟨x0,-,-,-,-,-,-,-,ax,ay⟩:=q.cells
 dsimp only at x0 ax ay
 have xl:=q.lt
 dsimp only at xl
 obtain⟨o0,o1,-⟩:=zc q0
 have ol:=za q0
 have ap:¬n=sp:=zu q.head q.urow (by decide) n rfl
 have aP:¬sp=n:=fun e=>ap e.symm
 have aq:¬n=g:=fun e=>xo q.urow q.krow (by decide) n rfl (by simp[Value.ownBlock,e])
 have aQ:¬g=n:=fun e=>aq e.symm
 have aY:w.1.size<(w.alloc (.cells #[I J kd,I J a,I J b,I i32 v] 33)).1.size:=ol
 have ar:¬n=w.1.size:=fun e=>by have:=h.foot_lt n (.inr (.inr (.inr (.inr rfl))));omega
 have T:¬w.1.size=n:=fun e=>ar e.symm
 have e1:IntKind.i64.wrap ((k:Int)-1)=(k:Int)-1:=by rw[IntKind.wrap_i64];omega
 have e2:IntKind.i64.wrap ((k:Int)-1-r)=i:=by rw[IntKind.wrap_i64];omega
 have aN:(i:Int)<k:=by omega
 have aV:((k:Int)==0)=false:=by simp;omega
 have P:=zd (xI z.mill S ⟨aI.1,by omega⟩ (by omega))
 have N:=zd z
 have Q0:=zd q0
 have al:Bel B w (w.alloc (.cells #[I J kd,I J a,I J b,I i32 v] 33)):=Bel.of Y A
 have az:=zd al
 have HX:=zd q
 have aB:=fun W=>zd (PK W)
 have HO:=zd ho
 have aL:B<=n:=(q.urow.lt n rfl).1
 clear h q Y q0 z t ak al ho PK
 have aW:(kd==5)=true:=by simp[an]
 have V:=(ud HO).ok.unt_pos a2
 have aK:0<vu m.QL ⟨ep,(i:Int)+1⟩:=by rw[V.1];exact V.2
 generalize aU:vu m.QL ⟨ep,(i:Int)+1⟩=u at a6 aK
 have aS:=zd av
 have aR:=zd au
 clear an
 go_enter Tryz.func41,Tryz.ntmps41
 go_wp2_with fail
 generalize(w.alloc (.cells #[I J kd,I J a,I J b,I i32 v] 33))=X at*
 refine wp_region_still_lit (by kernel_rfl) (by kernel_rfl) ?_
 repeat still_step
 still_call (ud (aB _))
 repeat still_step
 refine wpStill_nil ?_
 go_wp2_with fail
 refine(ud P).mono ?_
 rintro e F ⟨rfl,K⟩
 have D:=zd K
 have b2:w.1.size<F.1.size:=Nat.lt_of_lt_of_le ol (E (Nat.le_of_eq (Z4 X n i (I J 0)).symm) K.size)
 have p0:=(K.cell (p:=⟨w.1.size,0,O⟩) (by rw[Z4];exact ol)).trans ((Xu (i:=i) (v:=I J 0) T).trans o0)
 clear K P
 go_wp2_with fail
 have o:=((ud N).later (ud D)).later ((Q F.1.size F).alloc (U _) (.cells #[I J m.now,I J (zm m.L),I J (zU (zO (zm m.L) c.qu)),I J ep,I J (ze m.L 1),I J (ze m.L 2),I J (ze m.L 3),I J m.Gl.length] 37))
 have ah:Bel B w (F.alloc (.cells #[I J m.now,I J (zm m.L),I J (zU (zO (zm m.L) c.qu)),I J ep,I J (ze m.L 1),I J (ze m.L 2),I J (ze m.L 3),I J m.Gl.length] 37)):=by
  have k1:=(Bel.unt (i:=i) (ud HX).urow (I J 0)).drew
  have k2:=(ud az).trans k1
  have k3:=k2.trans (Bel.of (ud D) (E A k2.size))
  exact k3.alloc (E A k3.size) _
 have aj:=zk F (.cells #[I J m.now,I J (zm m.L),I J (zU (zO (zm m.L) c.qu)),I J ep,I J (ze m.L 1),I J (ze m.L 2),I J (ze m.L 3),I J m.Gl.length] 37)
 have H:F.1[w.1.size]?=some (.cells #[I J kd,I J a,I J b,I i32 v] 33 (0,0)):=((ud D).block _ (by rw[Z4];exact ol)).trans ((ZG T).trans (ud Q0))
 have ai:=(Below.heap_alloc _ (.cells #[I J m.now,I J (zm m.L),I J (zU (zO (zm m.L) c.qu)),I J ep,I J (ze m.L 1),I J (ze m.L 2),I J (ze m.L 3),I J m.Gl.length] 37) _ (za H)).trans H
 have aX:¬w.1.size=F.1.size:=by have:=za H;omega
 clear o0 o1 p0 x0 ax ay a0 a1 a6 aJ aF am xl H D N
 generalize(F.alloc (.cells #[I J m.now,I J (zm m.L),I J (zU (zO (zm m.L) c.qu)),I J ep,I J (ze m.L 1),I J (ze m.L 2),I J (ze m.L 3),I J m.Gl.length] 37))=Z at*
 generalize b1:F.1.size=wb at*
 obtain⟨z0,-,-,-,-,-,-,-,z11,-⟩:=o.cells
 dsimp only at z0 z11
 obtain⟨gz,aT,a4,aM,t0,t1⟩:=qK o.krow (j:=i) (by rw[zF];exact d)
 rw[zF]at a4
 dsimp only at a4
 cases a4
 have t:(vW ep k)[i]'(by rw[zF];exact d)=⟨ep,(i:Int)+1⟩:=(List.getElem?_eq_some_iff.1 (ko ep k i d)).2
 rw[t]at t0 t1
 dsimp only at t0 t1
 have zl:=o.lt
 dsimp only at zl
 have l:=zd o
 have ac:=zd ah
 have ae:=zd aj
 have ad:=zd ai
 have af:=(o.later (Q _ _).drew).mill
 have HC:=zd (zfq af ⟨ep,(i:Int)+1⟩ ⟨aE,by unfold xg;dsimp only;omega⟩ a2 av aw (ud HO).ok.now au (by have:=(ud HO).ok.t800 S;omega))
 have M:Hid (yn c ep m ns {m with TL:=qr m.TL g9.job (x9.failed m.now),QL:=xq m.QL ⟨ep,(i:Int)+1⟩} ns):=yn.failed m ns _ g9 x9 a2 aw
 clear af o ah aj ai t
 refine xh 11 (by kernel_rfl) (by kernel_rfl) ?_
 simp only[List.take_succ_cons,List.take_zero,List.drop_succ_cons,List.drop_zero]
 repeat still_step
 refine wpStill_nil ?_
 go_wp2_with(first
  |(go_at_call 21;refine(ud HC).mono ?_;rintro e V2 ⟨rfl,hM,hK⟩;have y:Kx si Z V2:=((ud l).mill.below (Q _ _).drew).trans hK;have s:=(ud l).putMill hM y;have s0:=(s.cells).1;dsimp only at s0;have sl:=s.lt;dsimp only at sl;have ab:=zd (y.kept.heap (ud ae) ((ud l).mill.tag (ud ae) (by decide)));have aa:=zd (y.kept.heap (ud ad) ((ud l).mill.tag (ud ad) (by decide)));have G:=(ud M).ok S hf (ud HO);have a7:=(G.ok.seg.u0 S);have ao:=(G.ok.seg.len400 S);have R:=zd (xI s.mill S ⟨a7.1,Int.le_trans a7.2 (by decide)⟩ (E ao (by decide)));dsimp only at R;have aC:=zd s;have a8:=zd ((ud ac).trans (Bel.mill (ud l).mill y (E A (ud ac).size) (ud l).mlo));have aA:=zd G;clear hM hK y s G a7 ao)
  |(go_at_call 15;refine(ud R).mono ?_;rintro e V3 ⟨rfl,f⟩;have C:=(f.block _ (za (ud ab))).trans (ud ab);have a5:=(f.block _ (za (ud aa))).trans (ud aa);obtain⟨w0,w1,-⟩:=zc C;have w2:V3.cell? ⟨wb,2,O⟩=some (I J (zU (zO (zm m.L) c.qu))):=(by rw[xD C];rfl);obtain⟨-,-,-,w3,w4,w5,w6,w7,-⟩:=zc C;have wl:=za C;obtain⟨p0,-⟩:=zc a5;have pl:=za a5;have a9:=zd f;clear f C a5))
 go_ret
 have f:=(ud a9).alloc (ud a9).size (.cells #[I J m.now,I J (zm m.L),I J (zU (zO (zm m.L) c.qu)),I J ep,I J (ze m.L 1),I J (ze m.L 2),I J (ze m.L 3),I J m.Gl.length] 37)
 have ag:=(ud aC).later f
 have e0:qV ep (xq m.QL ⟨ep,(i:Int)+1⟩) k=(qV ep m.QL k).set i 0:=Kc (ud HO).ok.nq k i
 rw[<-e0]at ag
 exact⟨rfl,_,ud M,⟨_,k,rfl,ag,hk,ud aA,aG,aH⟩,(ud a8).trans (Bel.of f (E A (ud a8).size))⟩
end Go.Proofs.YtndhpgciopcncaaGreatDoor
