import Derived.Test.YtndhpgciopcncaaGreatDoorHJag0
import Derived.Test.YtndhpgciopcncaaGreatDoorHCfd1
import Derived.Test.YtndhpgciopcncaaGreatDoorHSmj0
import Derived.StillTactics
import Derived.Test.YtndhpgciopcncaaGreatDoorRows
import Derived.WalkKit
import Derived.ProofKit
import Derived.OpenShut
import Derived.ChangeOld
import Derived.Below
import Derived.SizedLaws
import Derived.Test.YtndhpgciopcncaaGreatDoorCards
import Derived.Test.YtndhpgciopcncaaGreatDoorTie
import Derived.Handed
import Derived.Handy
import Derived.Lay
import Derived.SevenTiedAt
open Go.RowKit.Below renaming refl → J
open Option renaming some → E
open Go renaming World → N
open Nat renaming le_trans → A
open Nat renaming le_refl → D
open Go.RowKit renaming Below → T
open Nat renaming lt_of_lt_of_le → M
open Go.Value (int)
open Go.IntKind (i32)
set_option linter.unusedVariables false
set_option maxRecDepth 100000
set_option maxHeartbeats 16000000
open Go.Proofs.Tryz
namespace Go.Proofs.YtndhpgciopcncaaGreatDoor
open Go.RowKit Go.Maps Go.Shelf
variable {q:Bool} {c:Cf} {i:Ids} {sn:Int} {us:List Int} {ns:List Nm} {ys:List SX} {ks:List Tok} {g:Lse} {m m' u z:MS} {Q:MS->Prop} {B d:Nat} {F' f:Nat->Prop} {nF:RM->Nat} {s:Shp} {t:Tok} {W w w':N} {Mp:N->Prop}
theorem zeQ{ep:Int}{k:Nat}(h:zJ w B s c Mp sn ns (Ze ep k) us)(af:us.length=k)(kd a b v:Int)(i:Nat)(o:i<k)(r:Int)(bi:(k:Int)-1-r=i)(r0:0<=r/\r<k)(PK:∀W:N,Calls prog 31 #[I a,I k] W fun e w'=>e=.returned (I r)/\w'=W)(hj:k<=4398046511104)(aG:¬kd=5)(u:Int)(hu:us[i]?=E u)(a0 a1 a2 a3 a4 a5 a6 a7:Int)(HS:zff s.i Mp a0 a1 a2 a3 a4 a5 a6 a7)(R:Int->(N->Prop)->Prop)(ax:∀W,Mp W->Calls prog 20 #[(O s.i.x),.agg #[I ep,I ((i:Int)+1)]] W fun e W'=>∃y l b0 b1 b2 b3 b4 b5 b6 b7,e=.returned (I y)/\yQ s.i l/\l W'/\Kx s.i W W'/\zff s.i l b0 b1 b2 b3 b4 b5 b6 b7/\R y l/\((u=0/\y=8/\(b0=a0/\b1=a1/\b2=a2/\b3=a3/\b4=a4/\b5=a5/\b6=a6/\b7=a7))\/(0<u/\y=0/\¬a5=b5)\/(0<u/\y=0/\¬a7=b7)\/(0<u/\(¬y=0/\¬y=8)))):
  Calls prog 41 #[(O s.p),.agg (kZz kd a b v)] w fun e w'=>∃q y l,e=.returned (.bool q)/\(q=true↔(y=0\/y=8))/\zJ w' B s c l sn ns (Ze ep k) (us.set i 0)/\KpS w s w' s/\R y l:=by
 have bk:B<=w.1.size:=A h.lo (Nat.le_of_lt h.lt);obtain⟨sp,si,sd,av,aw,bn,bo⟩:=s;dsimp only at*;obtain⟨r0,r1⟩:=r0;have bj:B<=sp:=h.lo;have am:=h.mp.dlt h.mill;have K:=h.mp.foot_lt h.mill;have H:=h.dno;dsimp only at am K H;have al:T w.1.size w (w.alloc (.cells (kZz kd a b v) 33)):=(J _ _).alloc (D _) _;have q0:=zq w (.cells (kZz kd a b v) 33);have V:=h.later al;obtain⟨g,gc,ap,aX,an,ao⟩:=Qk V.krow (j:=i) (by rw[xP];exact o);obtain⟨t,ab,L,aF,aK,aY⟩:=zaD V.urow (j:=i) (by rw[af];exact o);rw[xP]at ap;rw[af]at L;dsimp only at ap L;subst ap;subst L;have G:(Ze ep k)[i]'(by rw[xP];exact o)=⟨ep,(i:Int)+1⟩:=(List.getElem?_eq_some_iff.1 (Vd ep k i o)).2;have aE:us[i]'(by rw[af];exact o)=u:=(List.getElem?_eq_some_iff.1 hu).2;rw[G]at an ao;rw[aE]at aK;dsimp only at an ao;have Q:=(V.setUnt (g:=t) (cap:=ab) (by rw[af]) i 0).later (J _ _).drew;obtain⟨x0,-,-,-,-,-,-,-,aM,aN⟩:=V.cells;dsimp only at x0 aM aN;have xl:=V.lt;dsimp only at xl;obtain⟨o0,o1,-⟩:=zc q0;have ol:=zd q0;have aH:¬t=sp:=zp V.head V.urow (by decide) t rfl;have ba:¬sp=t:=fun e=>aH e.symm;have aI:¬t=g:=fun e=>zU V.urow V.krow (by decide) t rfl (by simp[Value.ownBlock,e]);have bb:¬g=t:=fun e=>aI e.symm;have bh:w.1.size<(w.alloc (.cells (kZz kd a b v) 33)).1.size:=ol;have aJ:¬t=w.1.size:=fun e=>by have:=h.foot_lt t (.inr (.inr (.inr (.inr rfl))));omega
 have ai:¬w.1.size=t:=fun e=>aJ e.symm;have e1:IntKind.i64.wrap ((k:Int)-1)=(k:Int)-1:=by rw[IntKind.wrap_i64];omega
 have e2:IntKind.i64.wrap ((k:Int)-1-r)=i:=by rw[IntKind.wrap_i64];omega
 have b9:(i:Int)<k:=by omega
 have be:((k:Int)==0)=false:=by simp;omega
 have ah:=ze (HS _ Q.mill);have ag:=ze Q;have Q0:=ze q0;have aO:Hid (zi (qo ⟨sp,si,sd,av,aw,.slice (E (U g 0)) k gc,.slice (E (U t 0)) k ab⟩) w ((w.alloc (.cells (kZz kd a b v) 33)).setCell (U t i) (I 0)).drew):=(zg (zi.of_below al) (.inr (.inr (.inr (.inr rfl))))).drew;have aS:=fun W=>ze (PK W);have ay:=fun W hW=>ze (ax W hW);have bf:(kd==5)=false:=by simp[aG]
 clear h V al q0 Q G aE PK HS ax hu aG;go_enter func41,ntmps41;go_wp2_with fail;generalize(w.alloc (.cells (kZz kd a b v) 33))=X at*;refine wp_region_still_lit (by kernel_rfl) (by kernel_rfl) ?_;repeat still_step
 still_call (ud (aS _));repeat still_step
 refine wpStill_nil ?_;go_wp2_with fail;refine(ud ah).mono ?_;rintro e S ⟨rfl,ad⟩;have a9:=ze ad;have bm:w.1.size<S.1.size:=M ol (A (Nat.le_of_eq (zgH X t i (I 0)).symm) ad.size);have p0:=(ad.cell (p:=(U w.1.size 0)) (by rw[zgH];exact ol)).trans ((zhE (i:=i) (v:=I 0) ai).trans o0);clear ad ah;go_wp2_with fail;have z:=((ud ag).later (ud a9)).later ((J S.1.size S).alloc (D _) (.cells #[I a0,I a1,I a2,I a3,I a4,I a5,I a6,I a7] 37));have aj:zi (qo ⟨sp,si,sd,av,aw,.slice (E (U g 0)) k gc,.slice (E (U t 0)) k ab⟩) w (S.alloc (.cells #[I a0,I a1,I a2,I a3,I a4,I a5,I a6,I a7] 37)):=((ud aO).trans (zi.of_below (f:=fun _=>False) (ud a9)) (fun _ _ e=>e.elim)).alloc _;have ak:∀j,zt (S.alloc (.cells #[I a0,I a1,I a2,I a3,I a4,I a5,I a6,I a7] 37)) si j->j<w.1.size:=fun j hj=>K j (zP aj H am j hj);have aD:=zq S (.cells #[I a0,I a1,I a2,I a3,I a4,I a5,I a6,I a7] 37);have ac:S.1[w.1.size]?=E (.cells (kZz kd a b v) 33 (0,0)):=((ud a9).block _ (by rw[zgH];exact ol)).trans ((zcZ ai).trans (ud Q0));have aC:=(Below.heap_alloc _ (.cells #[I a0,I a1,I a2,I a3,I a4,I a5,I a6,I a7] 37) _ (zd ac)).trans ac;have bg:¬w.1.size=S.1.size:=by have:=zd ac;omega
 clear o0 o1 p0 x0 aM aN an ao aK aY aX aF xl ac a9 ag;generalize(S.alloc (.cells #[I a0,I a1,I a2,I a3,I a4,I a5,I a6,I a7] 37))=Z at*;generalize bl:S.1.size=wb at*;obtain⟨z0,-,-,-,-,-,-,-,z11,-⟩:=z.cells;dsimp only at z0 z11;obtain⟨gz,bd,aq,b8,t0,t1⟩:=Qk z.krow (j:=i) (by rw[xP];exact o);rw[xP]at aq;dsimp only at aq;cases aq;have G:(Ze ep k)[i]'(by rw[xP];exact o)=⟨ep,(i:Int)+1⟩:=(List.getElem?_eq_some_iff.1 (Vd ep k i o)).2;rw[G]at t0 t1;dsimp only at t0 t1;have zl:=z.lt;dsimp only at zl;have aa:=ze z;have aT:=ze (KpS.of (s':=⟨sp,si,sd,av,aw,.slice (E (U g 0)) k gc,.slice (E (U t 0)) k ab⟩) aj H am rfl (fun _ e=> .inl e));have aV:=ze aD;have aU:=ze aC;have HC:=ay Z.drew (z.later (J _ _).drew).mill;have aQ:=ze (fun e=>by have:=ak _ e;omega:¬zt Z si wb);have aR:=ze (fun e=>by have:=ak _ e;omega:¬zt Z si w.1.size);clear z aj aD aC G ay ak K;refine qH 11 (by kernel_rfl) (by kernel_rfl) ?_;simp only[List.take_succ_cons,List.take_zero,List.drop_succ_cons,List.drop_zero];repeat still_step
 refine wpStill_nil ?_;go_wp2_with(first
  |(go_at_call 20;refine(ud HC).mono ?_;rintro e V2 ⟨y,l,b0,b1,b2,b3,b4,b5,b6,b7,rfl,hP,hM,hK,hS,hR,ae⟩;have P:Kx si Z V2:=(Kx.below (J _ _).drew ((ud aa).mp.dlt (ud aa).mill)).trans hK;have F:=(ud aa).putMill hP hM P;have s0:=(F.cells).1;dsimp only at s0;have sl:=F.lt;dsimp only at sl;have aB:=ze (P.kept.heap (ud aV) (ud aQ));have az:=ze (P.kept.heap (ud aU) (ud aR));have aA:=ze (hS _ F.mill);have n:=ze F;have Y:=ze ((ud aT).trans ((ud aa).kpM P));have a8:=ze hR;have aP:=ze ae;clear hM hK P F hP hR hS ae)
  |(go_at_call 15;refine(ud aA).mono ?_;rintro e V3 ⟨rfl,d⟩;have au:=(d.block _ (zd (ud aB))).trans (ud aB);have ar:=(d.block _ (zd (ud az))).trans (ud az);obtain⟨w0,w1,w2,w3,w4,w5,w6,w7,-⟩:=zc au;have wl:=zd au;obtain⟨p0,-⟩:=zc ar;have pl:=zd ar;have m:=ze d;clear d au ar;have ae:=ud aP;rcases ae with⟨rfl,rfl,rfl,rfl,rfl,rfl,rfl,rfl,rfl,rfl⟩|⟨aL,rfl,C⟩|⟨aL,rfl,C⟩|⟨aL,C⟩))
 ·have bc:decide (0<(0:Int))=false:=by decide
  go_wp2_with fail;go_ret;have d:=(ud m).alloc (ud m).size (.cells #[I b0,I b1,I b2,I b3,I b4,I b5,I b6,I b7] 37);exact⟨_,8,l,rfl,by simp,(ud n).later d,(ud Y).trans ((ud n).kpB d),ud a8⟩
 ·have aW:(a5==b5)=false:=by simpa using C
  go_wp2_with fail;go_ret;have d:=(ud m).alloc (ud m).size (.cells #[I b0,I b1,I b2,I b3,I b4,I b5,I b6,I b7] 37);exact⟨_,0,l,rfl,by simp,(ud n).later d,(ud Y).trans ((ud n).kpB d),ud a8⟩
 ·have aW:(a7==b7)=false:=by simpa using C
  go_wp2_with fail;go_ret;have d:=(ud m).alloc (ud m).size (.cells #[I b0,I b1,I b2,I b3,I b4,I b5,I b6,I b7] 37);exact⟨_,0,l,rfl,by simp,(ud n).later d,(ud Y).trans ((ud n).kpB d),ud a8⟩
 ·have aZ:(y==0)=false:=by simpa using C.1
  go_wp2_with fail;go_ret;have d:=(ud m).alloc (ud m).size (.cells #[I b0,I b1,I b2,I b3,I b4,I b5,I b6,I b7] 37);exact⟨_,y,l,rfl,by simp[C],(ud n).later d,(ud Y).trans ((ud n).kpB d),ud a8⟩
theorem zly(s le la wi ke qu:Int)(a:Option Addr)(n cap:Nat)(F0 W0 K0:Nat->Int)(w:N)(f:Qo w)(h1: -9223372036854775808<=s/\s<=9223372036854775807)(h2: -9223372036854775808<=le/\le<=9223372036854775807)(h3: -9223372036854775808<=la/\la<=9223372036854775807)(h4: -9223372036854775808<=wi/\wi<=9223372036854775807)(h5: -9223372036854775808<=ke/\ke<=9223372036854775807)(h6: -9223372036854775808<=qu/\qu<=9223372036854775807)(ab:TS w a n F0 W0 K0)(hn:n<=140737488355328)(hF:∀i,i<n-> -9223372036854775808<=F0 i/\F0 i<=9223372036854775807)(hW:∀i,i<n-> -9223372036854775808<=W0 i/\W0 i<=9223372036854775807)(hK:∀i,i<n-> -9223372036854775808<=K0 i/\K0 i<=9223372036854775807):
  Calls prog 12 #[.agg #[I s,I le,I la,I wi,I ke,I qu,.slice a n cap]] w (zqa (zps s le la wi ke qu n F0 W0 K0) w):=by
 have a3:T w.1.size w (w.alloc (.cells #[I s,I le,I la,I wi,I ke,I qu,.slice a n cap] 27)):=(J _ _).alloc (D _) _;have q0:=zq w (.cells #[I s,I le,I la,I wi,I ke,I qu,.slice a n cap] 27);have V:=fun W (hW:T w.1.size w W)=>ze (zhu W (Za f hW));have Z:=fun W (al:T w.1.size w W)=>ze (zkG s le la wi ke qu a n cap F0 W0 K0 W h1 h2 h3 h4 h5 h6 (ab.below al) hn hF hW hK);have z:=ze a3;have Q0:=ze q0;have an:=zd q0;clear a3 q0 h1 h2 h3 h4 h5 h6 ab hF hW hK;go_enter func12,ntmps12;go_wp2_with(first
  |(go_at_call 36;refine(ud (V _ (ud z))).mono ?_;rintro e w1 ⟨rfl,G⟩;have x0:=(G.block _ an).trans (ud Q0);obtain⟨r0,r1,r2,r3,r4,r5,r6,-⟩:=zc x0;have aq:=zd x0;have p:=ze ((ud z).trans (G.mono (ud z).size));clear G x0 V)
  |(go_at_call 37;refine(ud (Z _ (ud p))).mono ?_;rintro e w2 ⟨c,g,C,a5,hr,hf,rfl,ho,a4⟩;have ad:=ze a5;clear a5;have HR:=ze hr;have HF:=ze hf;have B:=ze ho;have l:=ze ((ud p).trans (a4.mono (ud p).size));have ah:=ze (ud p).size;clear hr hf ho a4 Z r0 r1 r2 r3 r4 r5 r6)
  |(go_at_call 38;refine(zdn w.1.size _ (A (ud l).size (by rw[zM];omega))).mono ?_;rintro e w3 ⟨rfl,hD,r,R⟩;have u:=(r.block w2.1.size (by rw[zM];omega)).trans (zq w2 (.cells (aZz c (E (U g 0)) C) 27));obtain⟨s0,s1,s2,s3,s4,s5,s6,-⟩:=zc u;have a8:=zd u;have Q:=xp ((ud B).alloc (.cells (aZz c (E (U g 0)) C) 27)) r;have S:w3.1.size=w2.1.size+2:=(by rw[R,zM]);have a6:zx 111 113 w.1.size w3 (w2.1.size+1) Yp (.slice none 0 0):=(by rw[zM]at hD;exact hD);have a0:=ze (VI c (ja (ud HR)) (E (U g 0)) C w3 (TS.of_owns Q));have HD:=ze a6;have Y:=ze u;have ai:=ze Q;have a2:=ze S;have m:=ze ((ud l).trans (((J w2.1.size w2).alloc (D _) (.cells (aZz c (E (U g 0)) C) 27)).trans (r.mono (by rw[zM];omega))|>.mono (ud l).size));clear hD r R u Q S a6)
  |(go_at_call 30;refine(ud a0).mono ?_;rintro e w4 ⟨g4,rfl,v,b⟩;have a9:=(b.block _ (zd (ud Y))).trans (ud Y);have am:=(v.form (show 0<c.n from(ja (ud HR)).n1));have y:∀j,(Value.slice (E (U g4 0)) c.n c.n).ownBlock=E j->w3.1.size<=j:=(fun j t=>(v.lt j t).1);have a1:=ze (zbP c (ja (ud HR)) (ud HF) (ud HR) (E (U g4 0)) c.n w.1.size (w2.1.size+1) (.slice none 0 0) w4 (A (ud m).size b.size) ((ud HD).later b) (fun w' hk=>TS.of_owns (zh v hk (fun j t e=>zqb (ud a2) (y j t) e))) (Za f ((ud m).trans (b.mono (ud m).size))) (fun k e=>(by have h9:=f.lt;have h8:=(ud l).size;rcases e with e|e;(rw[e];omega);cases e)));have ac:=ze a9;have aj:=ze (xp (ud ai) b);have ak:Hid (w3.1.size<=w4.1.size):=b.size;have X:=ze ((ud m).trans (b.mono (ud m).size));clear v b a9 am y a0 s0 s1 s2 s3 s4 s5 s6 a8)
  |(go_at_call 29;refine(ud a1).mono ?_;rintro e w5 ⟨i,a7,rfl,hM,aa,o⟩;have d:zi (fun k=>k=w2.1.size+1) w4 w5:=aa.mono (fun k _ e=>(by rcases e with e|e;exact e;cases e));have P:=d.heap (ud ac) (by omega);obtain⟨t0,t1,t2,t3,t4,t5,t6,-⟩:=zc P;have ap:=zd P;have HM:=ze hM;have af:=ze d;have ae:=ze a7;have ag:Hid (∀k,zt w5 i k->k=w2.1.size+1\/w4.1.size<=k):=(fun k hk=>(by rcases o k hk with(e|e)|e;exact .inl e;cases e;exact .inr e));clear a7;clear hM aa d o P a1))
 go_ret;have hc:=ja (ud HR);have d:=ud af;have R:=ud a2;have S:=ud ak;have ar:=(ud l).size;have ao:w5.ownsRow _ 80 3 (.slice (E (U g 0)) c.n C) c.n (ZC c.n c.F c.W c.K):=zh (ud aj) d (fun j t e=>by have:=((ud B).lt j t).2;omega);have hA:T w5.1.size w5 (w5.alloc (.cells #[(O i.x),(O (w2.1.size+1)),I c.s,I c.le,I c.la,I c.wi,I c.ke,I c.qu,.slice (E (U g 0)) c.n C,I 0,.slice none 0 0,.slice none 0 0,.slice none 0 0] 44)):=(J _ _).alloc (D _) _;have H:T w.1.size w w5:=(ud X).trans (d.below (ud X).size (fun k e=>by omega));have o:=ud ag;have L:=(ud HM).below hA;refine⟨c,w5.1.size,ud ad,ud HR,ud HF,rfl,⟨⟨w5.1.size,i,w2.1.size+1,.slice (E (U g 0)) c.n C,.slice none 0 0,.slice none 0 0,.slice none 0 0⟩,0,rfl,⟨zq _ _,(ud HM).later hA,xp (kI ao (ud ah)) hA,World.ownsRow_nil _ _ _ _,World.ownsRow_nil _ _ _ _,World.ownsRow_nil _ _ _ _,H.size,fun j t=>?_,fun j t hm=>?_,(ud ae).symm,f.lt⟩,rfl,SOk.new hc,D _,D _⟩,H.trans (hA.mono H.size)⟩
 ·rcases L.foot t with e|e
  ·rcases o j e with e|e<;>omega
  ·omega
 ·have h3:j<w5.1.size->(j=w2.1.size+1\/w4.1.size<=j)/\zt w5 i j:=fun hl=>by
   rcases L.foot hm with e|e
   ·exact⟨o j e,e⟩
   ·omega
  rcases t with e|e|e|e|e
  ·have e':j=w5.1.size:=e;rcases L.foot hm with h|h
   ·have:=(ud HM).foot_lt j h;omega
   ·obtain⟨q,txt,ns,hG⟩:=ud HM;rw[e']at hm;exact XW hG.at_ hA hm
  ·have h4:=((ud B).lt j e).2;have h5:=d.size;rcases(h3 (by omega)).1 with h|h<;>omega
  ·cases e
  ·cases e
  ·cases e
structure jy(w:N)(B:Nat)(s:Shp)(c:Cf)(m:MS)(S:DS)(ns:List Nm)(k:Nat):Prop where
 sh:zJ w B s c (fun w=>xh w s.i c m S) m.now ns (Ze 1 k) (X5 1 m.QL k)
 num:m.num=k
 nsok:zqp ns
def OkH(w w':N)(B:Nat)(s:Shp)(c:Cf)(m:MS)(S:DS)(ns:List Nm)(k:Nat)(f:RM->RM)(nF:RM->Nat)(d:Nat):Prop:=∃s' m' S' ns' a,(s'.p=s.p/\s'.i=s.i)/\jy w' B s' c m' S' ns' a/\KpS w s w' s'/\(Nev S->Nev S')/\XL c 1 f m m'/\(∀r,qV c 1 m r->ns'.length=ns.length+nF r)/\ns'.length<=ns.length+1/\a<=k+d
def zqv(w w':N)(B:Nat)(s:Shp)(c:Cf)(m:MS)(S:DS)(ns:List Nm)(f:RM->RM):Prop:=∃s' a d b e,(s'.p=s.p/\s'.i=s.i)/\zJ w' B s' c (fun w=>vO w s'.i c a (XL c 1 f m)) d ns b e/\KpS w s w' s'/\¬Nev S/\a.L=m.L/\a.Gl=m.Gl/\a.now=m.now
def StH(w w':N)(B:Nat)(s:Shp)(c:Cf)(m:MS)(S:DS)(ns:List Nm)(k:Nat)(f:RM->RM)(nF:RM->Nat)(d:Nat)(q:Bool):Prop:=(q=true/\OkH w w' B s c m S ns k f nF d)\/(q=false/\zqv w w' B s c m S ns f)
noncomputable def zpX (c:Cf) (a b v:Int) (r:RM):Nat:=if(r.ingest (pkV a 4) (Yn c r.now b) v).2=0 then 1 else 0
section
variable {w:N} {B:Nat} {s:Shp} {c:Cf} {m:MS} {S:DS} {ns:List Nm} {k:Nat}
theorem jy.later(h:jy w B s c m S ns k)(a:T w.1.size w w'):jy w' B s c m S ns k:=⟨h.sh.later a,h.num,h.nsok⟩
theorem zJ.lostTo{P a:MS->Prop}(h:zJ w B s c (fun w=>vO w i c m P) sn ns ks us)(d:s.i=i)(b:∀m',P m'->a m'):zJ w B s c (fun w=>vO w s.i c m a) sn ns ks us:=by
 subst d;exact h.putMill (yQ.lost s.i c m a) (vO.mono h.mill b) (Kx.below (J _ _) (h.mp.dlt h.mill))
theorem zqk(h:jy w B s c m S ns k)(v:c.ok)(z:c.fits)(n:Int)(hn:1<=n/\n<=1000)(G:k<=4398046511104):
  Calls prog 17 #[(O s.p),I n] w fun e w'=>∃q,e=.returned (.bool q)/\StH w w' B s c m S ns k (zcu n) (fun _=>0) 0 q:=by
 obtain⟨nn,C⟩:=xh.sok h.sh.mill v;have d:=C.ok.now;by_cases x:100000<m.now+n
 ·refine(zmk h.sh n hn d x (J4 (xh.own h.sh.mill) n (.inr (.inr x)) d)).mono ?_;rintro e w' ⟨rfl,f,j⟩;exact⟨true,rfl,.inl ⟨rfl,s,m,S,ns,k,⟨rfl,rfl⟩,⟨f,h.num,h.nsok⟩,j,id,zhf x,fun _ _=>rfl,by omega,by omega⟩⟩
 ·refine(zoU h.sh n hn d.1 (by omega) (by rw[yq];exact G) (fun t g=>(t=0/\∃b a TL' S',g=(fun w=>xh w s.i c {m with now:=m.now+n,TL:=TL',QL:=a} S')/\(Nev S->Nev S')/\YQ (m.now+n) m.TL m.QL b a/\(∀p∈a,m.now+n<p.2.til)/\xB c {m with now:=m.now+n,TL:=b,QL:=a} TL')\/(t=13/\g=(fun w=>vO w s.i c m (XL c 1 (zcu n) m))/\¬Nev S)) ((zpV h.sh.mill v z n hn (by omega)).mono ?_)).mono ?_
  ·rintro e w' ⟨l,⟨rfl,b,a,TL',S',u,f,j,o,r⟩|⟨rfl,u,f⟩⟩
   ·exact⟨0,_,rfl,yQ.up _ _ _ _,u,l,.inl ⟨rfl,b,a,TL',S',rfl,f,j,o,r⟩⟩
   ·exact⟨13,_,rfl,yQ.lost _ _ _ _,u,l,.inr ⟨rfl,rfl,f⟩⟩
  ·rintro e w' ⟨t,g,rfl,y,l,⟨rfl,b,a,TL',S',rfl,f,j,o,r⟩|⟨rfl,rfl,f⟩⟩
   ·refine⟨true,rfl,.inl ⟨rfl,s,{m with now:=m.now+n,TL:=TL',QL:=a},S',ns,k,⟨rfl,rfl⟩,⟨?_,h.num,h.nsok⟩,l,f,zaN hn (by omega) j o r,fun _ _=>rfl,by omega,by omega⟩⟩;have F:=(C.tick v z hn.1 (by omega) j o r).2 k;show zJ w' B s c _ (m.now+n) ns (Ze 1 k) (X5 1 a k);rw[F];exact y
   ·exact⟨false,rfl,.inr ⟨rfl,s,m,_,_,_,⟨rfl,rfl⟩,y,l,f,rfl,rfl,rfl⟩⟩
theorem zqQ(h:jy w B s c m S ns k)(l:c.ok)(kd a b v:Int)(Z: -9223372036854775808<=a/\a<=9223372036854775807)(hbb: -9223372036854775808<=b/\b<=9223372036854775807)(hv: -2147483648<=v/\v<=2147483647)(Q:ns.length<4398046511104):
  Calls prog 39 #[(O s.p),.agg (kZz kd a b v)] w fun e w'=>∃q,e=.returned (.bool q)/\StH w w' B s c m S ns k (zof c a b v) (zpX c a b v) 0 q:=by
 obtain⟨nn,V⟩:=xh.sok h.sh.mill l;have g:=V.ok.now;have a5:=l.la;obtain⟨a1,H,-⟩:=yt a 4 Z (by omega);obtain⟨a2,b2,-⟩:=yt b (c.la+1) hbb (by omega);have d:(0<=Yn c m.now b/\Yn c m.now b<=m.now)/\m.now-c.la<=Yn c m.now b:=by unfold Yn;split<;>omega
 have a4:=V.ok.seg.u0 l;have a0:∀q:Nat,q<c.n->zE m.Gl (qO c (pkV a 4) (Yn c m.now b) q)=none:=fun q R=>V.ok.not_gone l (x:=⟨pkV a 4,Yn c m.now b,v⟩) d.2 (t:=(q:Int)) (by omega) (by omega);by_cases j:zV m.L+(1+2*yn c m.L ⟨pkV a 4,Yn c m.now b,v⟩ c.n)<=c.qu
 ·refine(znc h.sh l kd a b v Z hbb g Q (fun F f=>(F=0/\∃S',f=(fun w=>xh w s.i c {m with L:=yv c m.L ⟨pkV a 4,Yn c m.now b,v⟩} S')/\(Nev S->Nev S'))\/(F=13/\f=(fun w=>vO w s.i c m (fun m'=>m'={m with L:=yv c m.L ⟨pkV a 4,Yn c m.now b,v⟩}))/\¬Nev S)) (fun W P=>(zqM P l _ _ v ⟨a1,H⟩ d.1 d.2 hv j).mono ?_)).mono ?_
  ·rintro e w' ⟨u,⟨rfl,m',S',Y,o,rfl⟩|⟨rfl,Y,o⟩⟩
   ·exact⟨0,_,rfl,yQ.up _ _ _ _,Y,u,.inl ⟨rfl,S',rfl,o⟩⟩
   ·exact⟨13,_,rfl,yQ.lost _ _ _ _,Y,u,.inr ⟨rfl,rfl,o⟩⟩
  ·rintro e w' ⟨q,F,f,s',rfl,R,z,X,C,u,hR⟩;have K:=zno (c:=c) (ep:=1) (m:=m) (a:=a) (b:=b) (v:=v) rfl ⟨a1,H⟩ d.1 d.2 hv j;rcases hR with⟨rfl,S',rfl,o⟩|⟨rfl,rfl,o⟩
   ·rw[if_pos rfl]at z;refine⟨q,rfl,.inl ⟨R.2 (.inl rfl),s',{m with L:=yv c m.L ⟨pkV a 4,Yn c m.now b,v⟩},S',ns++[⟨pkV a 4,Yn c m.now b,v⟩],k,⟨X,C⟩,⟨by rw[C];exact z,h.num,?_⟩,u,o,K,fun r U=>?_,by simp,by omega⟩⟩
    ·intro y G;rcases List.mem_append.1 G with G|G
     ·exact h.nsok y G
     ·rw[List.mem_singleton]at G;subst G;exact⟨⟨a1,H⟩,d.1.1,by have:=d.1.2;show Yn c m.now b<=100000;omega⟩
    ·have I:=(U.ingest (pkV a 4) (Yn c m.now b) v hv).1;rw[show qM c m (pkV a 4) (Yn c m.now b) v=({m with L:=yv c m.L ⟨pkV a 4,Yn c m.now b,v⟩},0)from by unfold qM;rw[if_neg (by omega),if_neg (by omega),if_neg (by omega),if_neg (by omega)]]at I
     unfold zpX;rw[U.tie.now,I];simp
   ·rw[if_neg (by omega)]at z;have a3:q=false:=by
     cases q with
     |false=>rfl
     |true=>exact absurd (R.1 rfl) (by omega)
    exact⟨q,rfl,.inr ⟨a3,s',m,_,_,_,⟨X,C⟩,z.lostTo C (fun m' e=>by subst e;exact K),u,o,rfl,rfl,rfl⟩⟩
 ·refine(znc h.sh l kd a b v Z hbb g Q (fun F f=>F=4/\f=(fun w=>xh w s.i c m S)) (fun W P=>(zfV (xh.own P) l _ _ v ⟨a1,H⟩ d.1 d.2 g.2 hv ⟨a4.1,by omega⟩ V.ok.seg.st a0 (by omega)).mono ?_)).mono ?_
  ·rintro e w' ⟨rfl,hb⟩;exact⟨4,_,rfl,yQ.up _ _ _ _,xh.later P hb,xh.below P hb,rfl,rfl⟩
  ·rintro e w' ⟨q,F,f,s',rfl,R,z,X,C,u,rfl,rfl⟩;rw[if_neg (by omega)]at z;refine⟨q,rfl,.inl ⟨R.2 (.inr rfl),s',m,S,ns,k,⟨X,C⟩,⟨by rw[C];exact z,h.num,h.nsok⟩,u,id,zhe rfl ⟨a1,H⟩ d.1 d.2 hv (by omega),fun r U=>?_,by omega,by omega⟩⟩;have I:=(U.ingest (pkV a 4) (Yn c m.now b) v hv).1;rw[show qM c m (pkV a 4) (Yn c m.now b) v=(m,4)from by unfold qM;rw[if_neg (by omega),if_neg (by omega),if_neg (by omega),if_pos (by omega)]]at I
   unfold zpX;rw[U.tie.now,I];simp
theorem znd(h:jy w B s c m S ns k)(v:c.ok)(slot:Int)(a:0<=slot/\slot<c.s)(X:k<4398046511104):
  Calls prog 40 #[(O s.p),I slot] w fun e w'=>e=.returned (.bool true)/\∃s' m' H,(s'.p=s.p/\s'.i=s.i)/\jy w' B s' c m' S ns H/\KpS w s w' s'/\XL c 1 (Qi slot) m m'/\(H=k\/H=k+1)/\m'.L=m.L/\m'.Gl=m.Gl/\m'.now=m.now:=by
 obtain⟨nn,q⟩:=xh.sok h.sh.mill v;have j:=q.ok.now;have Z:=q.ok.seg.u0 v;have Y:=q.ok.q800 v;have l:=h.num;refine(zoS h.sh (yq _ _ _) v slot a j X (fun b n=>(b=false/\n=(fun w=>xh w s.i c m S)/\XL c 1 (Qi slot) m m)\/(b=true/\∃m',n=(fun w=>xh w s.i c m' S)/\XL c 1 (Qi slot) m m'/\m'.num=(k:Int)+1/\X5 1 m'.QL (k+1)=X5 1 m.QL k++[m.now+c.le]/\m'.L=m.L/\m'.Gl=m.Gl/\m'.now=m.now)) ((zmX (xh.own h.sh.mill) v slot a j q.tsk (fun p z=>(q.ok.td p z).key) (by omega) ⟨by omega,by omega⟩ (by unfold xz;omega) ⟨Z.1,by omega⟩).mono ?_)).mono ?_
 ·rintro e w' (⟨f,d,g⟩|⟨f,d,g,u⟩|⟨f,_⟩|⟨p,f,d,g,u,_,x,Q,R⟩)
  ·exact⟨_,yQ.up _ _ _ _,xh.later h.sh.mill d,xh.below h.sh.mill d,.inl ⟨f,.inl ⟨rfl,rfl,fun r o=>by unfold Qi;rw[o.pick_busy a g];exact o⟩⟩⟩
  ·exact⟨_,yQ.up _ _ _ _,xh.later h.sh.mill d,xh.below h.sh.mill d,.inr (.inl ⟨f,.inl ⟨rfl,rfl,fun r o=>by unfold Qi;rw[o.pick_idle a u g];exact o⟩⟩)⟩
  ·cases f
  ·obtain⟨U,V⟩:=xh.quiet h.sh.mill (fun ns=> .taken m ns p slot d g) rfl rfl rfl Q R;have F:XL c 1 (Qi slot) m {m with num:=m.num+1,QL:=qj m.QL ⟨1,m.num+1⟩ ⟨p.2.kd,p.2.s,slot,m.now+c.le⟩}:=fun r o=>(o.pick a f d g u).2.2;have G:X5 1 (qj m.QL ⟨1,m.num+1⟩ ⟨p.2.kd,p.2.s,slot,m.now+c.le⟩) (k+1)=X5 1 m.QL k++[m.now+c.le]:=(by rw[l];exact zmA q.ok.nq k _);refine⟨_,yQ.up _ _ _ _,U,V,.inr (.inr ⟨p.2.kd,p.2.s.t,p.2.s.sr,p.2.s.wn,p.2.se,p.2.ti,p.2.rest,?_,.inr ⟨rfl,_,rfl,F,by show m.num+1=_;omega,G,rfl,rfl,rfl⟩⟩)⟩;rw[x,l]
 ·rintro e w' ⟨b,n,s',rfl,P,z,y,K,W⟩;refine⟨rfl,?_⟩;rcases W with⟨rfl,rfl,C⟩|⟨rfl,m',rfl,C,f,d,g,u,x⟩
  ·exact⟨s',m,k,⟨z,y⟩,⟨by rw[y];exact P,h.num,h.nsok⟩,K,C,.inl rfl,rfl,rfl,rfl⟩
  ·refine⟨s',m',k+1,⟨z,y⟩,⟨?_,by rw[f];omega,h.nsok⟩,K,C,.inr rfl,g,u,x⟩;rw[y,d,x];exact P
end
theorem zcn(i:Ids)(c:Cf)(m:MS)(S:DS)(a:c.ok):zff i (fun w=>xh w i c m S) m.now (zV m.L) (zcv (kW (zV m.L) c.qu)) 1 (xc m.L 1) (xc m.L 2) (xc m.L 3) m.Gl.length:=fun W b=>by
 obtain⟨nn,d⟩:=xh.sok b a;have e:=d.ok.seg.u0 a;have f:=d.ok.seg.len400 a;exact JZ (xh.own b) a ⟨e.1,by omega⟩ (by omega)
theorem zqR(i:Ids)(c:Cf)(m:MS)(P:MS->Prop)(a:c.ok):zff i (fun w=>vO w i c m P) m.now (zV m.L) (zcv (kW (zV m.L) c.qu)) 1 (xc m.L 1) (xc m.L 2) (xc m.L 3) m.Gl.length:=fun W f=>by
 obtain⟨q,txt,ns,lo,dr,l,d,h,j,k,n,o,e,p⟩:=f;have b:=e.sok a;have g:=b.ok.seg.u0 a;have r:=b.ok.seg.len400 a;exact JZ d.own a ⟨g.1,by omega⟩ (by omega)
theorem XN.parts(h:XN c m t g m'):m'.now=m.now/\m'.num=m.num/\m'.QL=zT m.QL t:=by
 cases h<;>exact⟨rfl,rfl,rfl⟩
theorem XN.diff{nn:Nat}(h:XN c m t g m')(d:c.ok)(e:c.fits)(i:SOk c 1 m nn)(f:zE m.QL t=E g):¬xc m.L 2=xc m'.L 2\/¬(m.Gl.length:Int)=m'.Gl.length:=by
 cases h with
 |roll s se ti rest k TL' b j a=>left;have:=(i.roll d e f b _ a).2;dsimp only;omega
 |recl s se ti rest TL' b a=>right;have:=(i.reclaim d e f b a).2;dsimp only;omega
section
variable {w:N} {B:Nat} {s:Shp} {c:Cf} {m:MS} {S:DS} {ns:List Nm} {k:Nat}
theorem zjt(h:jy w B s c m S ns k)(n:c.ok)(hf:c.fits)(kd a b v:Int)(ha: -9223372036854775808<=a/\a<=9223372036854775807)(hj:k<=4398046511104):
  Calls prog 41 #[(O s.p),.agg (kZz kd a b v)] w fun e w'=>∃q,e=.returned (.bool q)/\StH w w' B s c m S ns k (Yl 1 kd a) (fun _=>0) 0 q:=by
 obtain⟨nn,R⟩:=xh.sok h.sh.mill n;by_cases Y:k=0
 ·subst Y;refine(zlV h.sh kd a b v).mono ?_;rintro e w' ⟨rfl,y,z⟩;exact⟨true,rfl,.inl ⟨rfl,s,m,S,ns,0,⟨rfl,rfl⟩,⟨y,h.num,h.nsok⟩,z,id,zfi h.num,fun _ _=>rfl,by omega,by omega⟩⟩
 ·obtain⟨r0,r1,V⟩:=yt a k ha (by omega);generalize hr:pkV a k=r at r0 r1 V;have G:(k:Int)-1-r=(((k:Int)-1-r).toNat:Int):=by omega
  have F:((k:Int)-1-r).toNat<k:=by omega
  generalize((k:Int)-1-r).toNat=i at*;have H:=zaC 1 m.QL k i F;have I:(⟨1,(i:Int)+1⟩:Tok).wf:=⟨by unfold xz;dsimp only;omega,by unfold xz;dsimp only;omega⟩;have l:∀{m':MS},XL c 1 (zgO kd 1 ((i:Int)+1)) m m'->XL c 1 (Yl 1 kd a) m m':=fun h9=>zhc h.num Y (by rw[hr];exact G) h9;cases t:zE m.QL ⟨1,(i:Int)+1⟩with
  |none=>
   have Z:YL m.QL ⟨1,(i:Int)+1⟩=0:=MOk.unt_none t
   rw[Z]at H
   have Q:(X5 1 m.QL k).set i 0=X5 1 m.QL k:=zjZ k i Z
   have P:∀e w',(∃q j d,e=Ending.returned (.bool q)/\(q=true↔(j=0\/j=8))/\zJ w' B s c d m.now ns (Ze 1 k) ((X5 1 m.QL k).set i 0)/\KpS w s w' s/\((j:Int)=8/\d=fun w=>xh w s.i c m S))->∃q,e=Ending.returned (.bool q)/\StH w w' B s c m S ns k (Yl 1 kd a) (fun _=>0) 0 q:=by
    rintro e w' ⟨q,j,d,rfl,U,K,C,rfl,rfl⟩;rw[Q]at K;exact⟨q,rfl,.inl ⟨U.2 (.inr rfl),s,m,S,ns,k,⟨rfl,rfl⟩,⟨K,h.num,h.nsok⟩,C,id,l (znn t),fun _ _=>rfl,by omega,by omega⟩⟩
   by_cases f:kd=5
   ·refine(zeR h.sh (yq _ _ _) kd a b v i F r G ⟨r0,r1⟩ V hj f 0 H _ _ _ _ _ _ _ _ (zcn s.i c m S n) (fun j d=>j=8/\d=fun w=>xh w s.i c m S) (fun W u=>(zej (xh.own u) ⟨1,(i:Int)+1⟩ I t).mono ?_)).mono P
    rintro e w' ⟨rfl,X⟩
    exact⟨8,_,_,_,_,_,_,_,_,_,rfl,yQ.up _ _ _ _,xh.later u X,xh.below u X,zcn s.i c m S n,⟨rfl,rfl⟩,.inl ⟨rfl,rfl,rfl,rfl,rfl,rfl,rfl,rfl,rfl,rfl⟩⟩
   ·refine(zeQ h.sh (yq _ _ _) kd a b v i F r G ⟨r0,r1⟩ V hj f 0 H _ _ _ _ _ _ _ _ (zcn s.i c m S n) (fun j d=>j=8/\d=fun w=>xh w s.i c m S) (fun W u=>(VH (xh.own u) ⟨1,(i:Int)+1⟩ I t).mono ?_)).mono P
    rintro e w' ⟨rfl,X⟩
    exact⟨8,_,_,_,_,_,_,_,_,_,rfl,yQ.up _ _ _ _,xh.later u X,xh.below u X,zcn s.i c m S n,⟨rfl,rfl⟩,.inl ⟨rfl,rfl,rfl,rfl,rfl,rfl,rfl,rfl,rfl,rfl⟩⟩
  |some g=>
   obtain⟨x,hx,a3,a4,a5,a2⟩:=R.job n t
   have a0:=R.ok.unt_pos t
   have L:X5 1 (zT m.QL ⟨1,(i:Int)+1⟩) k=(X5 1 m.QL k).set i 0:=zmz R.ok.nq k i
   have o:0<YL m.QL ⟨1,(i:Int)+1⟩:=by rw[a0.1];exact a0.2
   by_cases f:kd=5
   ·refine(zeR h.sh (yq _ _ _) kd a b v i F r G ⟨r0,r1⟩ V hj f _ H _ _ _ _ _ _ _ _ (zcn s.i c m S n) (fun j d=>j=0/\d=fun w=>xh w s.i c {m with TL:=qj m.TL g.job (x.failed m.now),QL:=zT m.QL ⟨1,(i:Int)+1⟩} S) (fun W u=>(zhW (xh.own u) ⟨1,(i:Int)+1⟩ I t a3 hx R.ok.now a2 (by have:=R.ok.t800 n;omega)).mono ?_)).mono ?_
    ·rintro e w' ⟨rfl,hO,C⟩
     obtain⟨y,z⟩:=xh.quiet u (fun ns=> .failed m ns ⟨1,(i:Int)+1⟩ g x t hx) rfl rfl rfl hO C
     exact⟨0,_,_,_,_,_,_,_,_,_,rfl,yQ.up _ _ _ _,y,z,zcn _ _ _ _ n,⟨rfl,rfl⟩,.inr ⟨o,rfl,rfl,rfl,rfl,rfl,rfl,rfl,rfl,rfl⟩⟩
    ·rintro e w' ⟨q,j,d,rfl,U,K,C,rfl,rfl⟩
     rw[<-L]at K
     exact⟨q,rfl,.inl ⟨U.2 (.inl rfl),s,{m with TL:=qj m.TL g.job (x.failed m.now),QL:=zT m.QL ⟨1,(i:Int)+1⟩},S,ns,k,⟨rfl,rfl⟩,⟨K,h.num,h.nsok⟩,C,id,l (zhd f t hx),fun _ _=>rfl,by omega,by omega⟩⟩
   ·refine(zeQ h.sh (yq _ _ _) kd a b v i F r G ⟨r0,r1⟩ V hj f _ H _ _ _ _ _ _ _ _ (zcn s.i c m S n) (fun j d=>(j=0/\∃m' S',d=(fun w=>xh w s.i c m' S')/\(Nev S->Nev S')/\XN c m ⟨1,(i:Int)+1⟩ g m')\/(j=13/\d=(fun w=>vO w s.i c m (XN c m ⟨1,(i:Int)+1⟩ g))/\¬Nev S)) (fun W u=>(znL u n ⟨1,(i:Int)+1⟩ I t).mono ?_)).mono ?_
    ·rintro e w' ⟨C,⟨rfl,m',S',hM,y,z⟩|⟨rfl,hM,y⟩⟩
     ·refine⟨0,_,_,_,_,_,_,_,_,_,rfl,yQ.up _ _ _ _,hM,C,zcn _ _ _ _ n,.inl ⟨rfl,m',S',rfl,y,z⟩,?_⟩
      rcases z.diff n hf R t with h3|h3
      ·exact .inr (.inl ⟨o,rfl,h3⟩)
      ·exact .inr (.inr (.inl ⟨o,rfl,h3⟩))
     ·exact⟨13,_,_,_,_,_,_,_,_,_,rfl,yQ.lost _ _ _ _,hM,C,zqR _ _ _ _ n,.inr ⟨rfl,rfl,y⟩,.inr (.inr (.inr ⟨o,by omega,by omega⟩))⟩
    ·rintro e w' ⟨q,j,d,rfl,U,K,C,⟨rfl,m',S',rfl,y,z⟩|⟨rfl,rfl,y⟩⟩
     ·obtain⟨p1,p2,p3⟩:=z.parts
      refine⟨q,rfl,.inl ⟨U.2 (.inl rfl),s,m',S',ns,k,⟨rfl,rfl⟩,⟨?_,by rw[p2];exact h.num,h.nsok⟩,C,y,l (z.actD t f),fun _ _=>rfl,by omega,by omega⟩⟩
      rw[p1,p3,L];exact K
     ·have a1:q=false:=by
       cases q with
       |false=>rfl
       |true=>exact absurd (U.1 rfl) (by omega)
      exact⟨q,rfl,.inr ⟨a1,s,m,_,_,_,⟨rfl,rfl⟩,K.lostTo rfl (fun m' z=>l (XN.actD z t f)),C,y,rfl,rfl,rfl⟩⟩
theorem StH.pre{X:N}{f:RM->RM}(o:KpS w s X s)(h:StH X w' B s c m S ns k f nF d q):StH w w' B s c m S ns k f nF d q:=by
 rcases h with⟨a,s',m',S',ns',p,b,e,g,i⟩|⟨a,s',r,l,j,n,b,e,g,i⟩
 ·exact .inl ⟨a,s',m',S',ns',p,b,e,o.trans g,i⟩
 ·exact .inr ⟨a,s',r,l,j,n,b,e,o.trans g,i⟩
theorem StH.wider{f:RM->RM}{a:Nat}(t:d<=a)(h:StH w w' B s c m S ns k f nF d q):StH w w' B s c m S ns k f nF a q:=by
 rcases h with⟨b,s',m',S',ns',p,e,g,i,j,l,n,o,r⟩|h
 ·exact .inl ⟨b,s',m',S',ns',p,e,g,i,j,l,n,o,by omega⟩
 ·exact .inr h
noncomputable def nSt (c:Cf) (kd a b v:Int) (r:RM):Nat:=if kd=1 then zpX c a b v r else 0
theorem zoT(h:jy w B s c m S ns k)(i:c.ok)(K:c.fits)(kd a b v:Int)(l: -9223372036854775808<=a/\a<=9223372036854775807)(hbb: -9223372036854775808<=b/\b<=9223372036854775807)(hv: -2147483648<=v/\v<=2147483647)(hj:k<4398046511104)(a1:ns.length<4398046511104)(a6:1<=kd/\kd<=6):
  Calls prog 13 #[(O s.p),.agg (kZz kd a b v)] w fun e w'=>∃q,e=.returned (.bool q)/\StH w w' B s c m S ns k (zfL c 1 kd a b v) (nSt c kd a b v) 1 q:=by
 have n:T w.1.size w (w.alloc (.cells (kZz kd a b v) 33)):=(J _ _).alloc (D _) _;have I:=h.later n;have t:=h.later n.drew;have j:=h.sh.kpB n;have hK1:=h.sh.kpB n.drew;have a5:=i.sl;by_cases d:kd=1
 ·have g:zfL c 1 kd a b v=zof c a b v:=by subst d;rfl
  have P:nSt c kd a b v=zpX c a b v:=by subst d;rfl
  rw[g,P];exact zmc kd a b v d ((zqQ I i kd a b v l hbb hv a1).mono (fun e w' ⟨q,d,f⟩=>⟨q,d,(f.pre j).wider (by omega)⟩))
 have P:nSt c kd a b v=fun _=>0:=by funext r;unfold nSt;rw[if_neg d]
 rw[P];by_cases f:kd=2
 ·have g:zfL c 1 kd a b v=zcu (1+pkV a 1000):=by subst f;rfl
  rw[g];obtain⟨L,r1,-⟩:=yt a 1000 l (by omega);exact zmd kd a b v l f ((zqk I i K _ ⟨by omega,by omega⟩ (by omega)).mono (fun e w' ⟨q,d,f⟩=>⟨q,d,(f.pre j).wider (by omega)⟩))
 by_cases z:kd=3
 ·have g:zfL c 1 kd a b v=Qi (pkV a c.s):=by subst z;rfl
  rw[g];obtain⟨L,r1,-⟩:=yt a c.s l (by omega);exact zme h.sh i kd a b v l z ((znd t i _ ⟨L,r1⟩ hj).mono (fun e w' ⟨d,s',m',y,f,z,C,F,h6,h7,h8,h9⟩=>⟨true,d,.inl ⟨rfl,s',m',S,ns,y,f,z,hK1.trans C,id,F,fun _ _=>rfl,by omega,by omega⟩⟩))
 by_cases C:kd=4
 ·have g:zfL c 1 kd a b v=Yl 1 kd a:=by subst C;rfl
  rw[g];exact zmf kd a b v C ((zjt I i K kd a b v l (by omega)).mono (fun e w' ⟨q,d,f⟩=>⟨q,d,(f.pre j).wider (by omega)⟩))
 by_cases F:kd=5
 ·have g:zfL c 1 kd a b v=Yl 1 kd a:=by subst F;rfl
  rw[g];exact zmg kd a b v F ((zjt I i K kd a b v l (by omega)).mono (fun e w' ⟨q,d,f⟩=>⟨q,d,(f.pre j).wider (by omega)⟩))
 have h6:kd=6:=by omega
 have g:zfL c 1 kd a b v=zfq c 1 a:=by subst h6;rfl
 rw[g];obtain⟨L,r1,-⟩:=yt a c.s l (by omega);refine zmh h.sh i kd a b v l (by omega) h6 ((znd t i _ ⟨L,r1⟩ hj).mono ?_);rintro e w' ⟨he,s',m',y,⟨x,hi⟩,H,hK,G,a7,hL,hG,hN⟩;have o:=H.sh;rw[hN]at o;refine⟨he,s',_,ns,y,_,x,o,?_⟩;have a8:=h.num;have a9:=H.num;by_cases u:y=k
 ·exact .inl ⟨u,.inl ⟨rfl,s',m',S,ns,y,⟨x,hi⟩,H,hK1.trans hK,id,zfh G (by omega),fun _ _=>rfl,by omega,by omega⟩⟩
 ·refine .inr ⟨u,?_⟩;rw[<-x];refine(zjt H i K 4 0 0 0 (by omega) (by omega)).mono ?_;rintro e w2 ⟨q,a0,f⟩;refine⟨q,a0,?_⟩;rcases f with⟨Z,s2,m2,S2,ns2,k2,⟨Q,R⟩,U,V,W,g6,X,Y,g9⟩|⟨Z,s2,m2,a3,a2,a4,⟨Q,R⟩,U,V,W,g6,X,Y⟩
  ·exact .inl ⟨Z,s2,m2,S2,ns2,k2,⟨Q.trans x,R.trans hi⟩,U,(hK1.trans hK).trans V,W,zaM G (by omega) g6,fun r hr=>X (Qi (pkV a c.s) r) (G r hr),Y,by omega⟩
  ·exact .inr ⟨Z,s2,m2,a3,a2,a4,⟨Q.trans x,R.trans hi⟩,U.lostTo rfl (fun m9 h9=>zaM G (by omega) h9),(hK1.trans hK).trans V,W,g6.trans hL,X.trans hG,Y.trans hN⟩
end
theorem qp(c:zi f w w')(b:¬f s.i.d)(e:s.i.d<w.1.size):∀k,xW w' s k->xW w s k:=fun k a=>a.imp id (zP c b e k)
theorem zJ.alt(h:zJ w B s c Mp sn ns ks us):∀k,xW w s k->k<w.1.size:=fun k a=>a.elim (fun e=>h.foot_lt k e) (fun e=>h.mp.foot_lt h.mill k e)
theorem zJ.alo(h:zJ w B s c Mp sn ns ks us):∀k,xW w s k->B<=k:=fun k a=>a.elim (fun e=>h.foot_lo k e) (fun e=>h.mlo k e)
theorem zJ.atab(h:zJ w B s c Mp sn ns ks us):¬xW w s vR:=fun e=>by have a:=h.alo _ e;have b:=h.tb;omega
theorem afd(w:N)(s:Shp):xW w s s.i.d:=.inr (.inl (.inr (.inr (.inr (.inr rfl)))))
structure Two(w0 W:N)(F:Nat->Prop)(B1 B2:Nat)(s t:Shp)(c:Cf)(Mp:N->Prop)(m2:MS)(S2:DS)(ns2:List Nm)(k2:Nat):Prop where
 sh:∃sn ns ks us,zJ W B1 s c Mp sn ns ks us
 ot:jy W B2 t c m2 S2 ns2 k2
 nev:Nev S2
 ap:∀k,xW W t k->¬xW W s k
 low:zi F w0 W
 l0:∀k,W.1.size<=k->F k
 l1:∀k,xW W s k->F k
 l2:∀k,xW W t k->F k
section
variable {w0 W W':N} {F:Nat->Prop} {B1 B2:Nat} {s t:Shp} {c:Cf} {Mp:N->Prop} {m2:MS} {S2:DS} {ns2:List Nm} {k2:Nat}
theorem Two.alt1(h:Two w0 W F B1 B2 s t c Mp m2 S2 ns2 k2):∀k,xW W s k->k<W.1.size:=by obtain⟨sn,ns,ks,us,a⟩:=h.sh;exact a.alt
theorem Two.alt2(h:Two w0 W F B1 B2 s t c Mp m2 S2 ns2 k2):∀k,xW W t k->k<W.1.size:=h.ot.sh.alt
theorem Two.kept(h:Two w0 W F B1 B2 s t c Mp m2 S2 ns2 k2)(b:zi f W W')(i:∀k,xW W s k->¬f k)(l:∀k,xW W t k->¬f k)(o:¬f vR)(p:∀k,f k->F k):Two w0 W' F B1 B2 s t c Mp m2 S2 ns2 k2/\(∀k,xW W' s k->xW W s k)/\∀k,xW W' t k->xW W t k:=by
 obtain⟨sn,ns,ks,us,n⟩:=h.sh;have d:=qp b (i _ (afd _ _)) (n.mp.dlt n.mill);have g:=qp b (l _ (afd _ _)) (h.ot.sh.mp.dlt h.ot.sh.mill);exact⟨⟨⟨sn,ns,ks,us,n.kept b (fun j a=>i j (.inl a)) (fun j a=>i j (.inr a)) o⟩,⟨h.ot.sh.kept b (fun j a=>l j (.inl a)) (fun j a=>l j (.inr a)) o,h.ot.num,h.ot.nsok⟩,h.nev,fun k m e=>h.ap k (g k m) (d k e),h.low.trans b (fun k _ e=>p k e),fun k e=>h.l0 k (A b.size e),fun k e=>h.l1 k (d k e),fun k e=>h.l2 k (g k e)⟩,d,g⟩
theorem Two.later(h:Two w0 W F B1 B2 s t c Mp m2 S2 ns2 k2)(a:T W.1.size W W'):Two w0 W' F B1 B2 s t c Mp m2 S2 ns2 k2:=(h.kept (f:=fun _=>False) (zi.of_below a) (fun _ _ e=>e) (fun _ _ e=>e) (fun e=>e) (fun _ e=>e.elim)).1
theorem Two.cells(h:Two w0 W F B1 B2 s t c Mp m2 S2 ns2 k2):W.cell? (U s.p 0)=E (O s.i.x)/\W.cell? (U s.p 1)=E (O s.i.d)/\W.cell? (U t.p 0)=E (O t.i.x)/\s.p<W.1.size/\t.p<W.1.size:=by
 obtain⟨sn,ns,ks,us,a⟩:=h.sh;exact⟨a.cells.1,by rw[<-a.dd,xR a.head];rfl,h.ot.sh.cells.1,a.lt,h.ot.sh.lt⟩
theorem Two.mill{a:N->Prop}(h:Two w0 W F B1 B2 s t c Mp m2 S2 ns2 k2)(m:yQ s.i a)(n:a W')(g:Kx s.i W W'):Two w0 W' F B1 B2 s t c a m2 S2 ns2 k2:=by
 obtain⟨sn,ns,ks,us,f⟩:=h.sh;have b:=f.kpM g;obtain⟨j,l⟩:=h.ot.sh.other (B:=0) b h.ap f.atab;have d:=qp b.kept (h.ap _ (afd _ _)) (h.ot.sh.mp.dlt h.ot.sh.mill);exact⟨⟨sn,ns,ks,us,f.putMill m n g⟩,⟨j,h.ot.num,h.ot.nsok⟩,h.nev,l,h.low.trans b.kept (fun k _ e=>h.l1 k e),fun k e=>h.l0 k (A b.kept.size e),fun k e=>(b.new k e).elim (h.l1 k) (h.l0 k),fun k e=>h.l2 k (d k e)⟩
theorem Two.anew(h:Two w0 W F B1 B2 s t c Mp m2 S2 ns2 k2)(o:zi f W W')(l:∀k,xW W s k->¬f k)(m:∀k,xW W t k->¬f k)(p:¬f vR)(n:∀k,f k->F k)(g:∀k,W'.1.size<=k->F' k)(i:∀k,xW W s k->F' k)(j:∀k,xW W t k->F' k):Two W' W' F' B1 B2 s t c Mp m2 S2 ns2 k2:=by
 obtain⟨a,b,d⟩:=h.kept o l m p n;exact⟨a.sh,a.ot,a.nev,a.ap,zi.refl _ _,g,fun k e=>i k (b k e),fun k e=>j k (d k e)⟩
def CrD(F:Nat->Prop)(W:N)(s t:Shp)(d:Nat)(c:Cf)(Q:MS->Prop):Prop:=∃(m:MS) (nh:List Nm) (t0:ByteArray) (a:List Rw) (S:DS) (fs:Value),Yt W d S fs/\zpy S 2 (xb a)/\VC c m a/\(xb a).size<=300000000000/\ki c 1 m nh t0/\Q m/\(∀k,foot d fs k->F k)/\(∀k,foot d fs k->¬xW W s k)/\∀k,foot d fs k->¬xW W t k
theorem Two.crash(h:Two w0 W F B1 B2 s t c Mp m2 S2 ns2 k2){S:DS}(n:zgV W s.i c S Q)(keep:Int):
  Calls prog 23 #[(O s.i.d),I keep] W fun e W'=>e=.returned (O W.1.size)/\Two w0 W' F B1 B2 s t c Mp m2 S2 ns2 k2/\CrD F W' s t W.1.size c Q:=by
 obtain⟨fs,l,-⟩:=n.at_;refine(zbc 0 s.i.d S fs keep W 400000000000 (by decide) n.dok (Nat.zero_le _) l).mono ?_;rintro e W' ⟨rfl,g,r,B,K,p⟩;obtain⟨m,nh,t0,H,L,dr,C,o,G,j,z,q,x,y⟩:=n.crs keep;rw[C]at r;have b:∀k,foot W.1.size g k->W.1.size<=k:=fun k a=>by
  rcases a with e|e
  ·omega
  ·exact p k e
 obtain⟨w,u,v⟩:=h.kept (f:=fun _=>False) (zi.of_below B) (fun _ _ e=>e) (fun _ _ e=>e) (fun e=>e) (fun _ e=>e.elim);refine⟨rfl,w,m,nh,t0,H,_,g,r,ziL o (by omega) (by omega) (by omega) j,z,q,x,y,fun k a=>h.l0 k (b k a),fun k a e=>?_,fun k a e=>?_⟩
 ·have a1:=b k a;have a2:=h.alt1 k (u k e);omega
 ·have a1:=b k a;have a2:=h.alt2 k (v k e);omega
structure ZP(W:N)(c:Cf)(t:Shp)(i:Ids)(m z:MS)(ys:List SX):Prop where
 at_:zF W i c 2 z
 now:z.now=m.now
 seg:qk (z.Gl,z.L) (m.Gl,m.L)
 pst:xB c {z with TL:=[]} z.TL
 hist:∃nh t0,ki c 1 m nh t0
 per:ys.Perm (yJ m.L m.Gl)
 dk:∃fs,Yt W i.d (jS 2 (xm m.now ys++nl)) fs/\∀k,foot i.d fs k->zt W i k
 ap:∀k,zt W i k->¬xW W t k
theorem ZP.kept{p:Shp}(h:ZP W c t i m z ys)(l:zi f W W')(g:∀k,zt W i k->¬f k)(u:¬f vR)(s:∀k,xW W' p k->xW W t k\/W.1.size<=k):ZP W' c p i m z ys:=by
 have a:=zP l (g _ (.inl (.inr (.inr (.inr (.inr rfl)))))) h.at_.dlt;have n:∀k,zt W i k->zt W' i k:=fun k b=>by
  rcases b with e|e
  ·exact .inl e
  ·refine .inr ?_;have j:=l.block _ h.at_.dlt (g _ (.inl (.inr (.inr (.inr (.inr rfl))))));have q:fsB W' i.d=fsB W i.d:=(by unfold fsB World.cell?;simp only[j]);rw[q];exact e
 obtain⟨fs,r,o⟩:=h.dk;refine⟨h.at_.kept l g u,h.now,h.seg,h.pst,h.hist,h.per,⟨fs,r.kept l (fun k e=>g k (o k e)),fun k e=>n k (o k e)⟩,fun k b e=>?_⟩;have j:=a k b;rcases s k e with e|e
 ·exact h.ap k j e
 ·have:=h.at_.foot_lt k j;omega
theorem ZP.later(h:ZP W c t i m z ys)(a:T W.1.size W W')(g:t.i.d<W.1.size):ZP W' c t i m z ys:=h.kept (f:=fun _=>False) (zi.of_below a) (fun _ _ e=>e) (fun e=>e) (fun k b=> .inl (qp (f:=fun _=>False) (zi.of_below a) (fun e=>e) g k b))
theorem Two.tdl(h:Two w0 W F B1 B2 s t c Mp m2 S2 ns2 k2):t.i.d<W.1.size:=h.ot.sh.mp.dlt h.ot.sh.mill
theorem Two.again(h:Two w0 W F B1 B2 s t c Mp m2 S2 ns2 k2)(hr:qd c.s c.le c.la c.wi c.ke c.qu c.n c.F c.W c.K=true)(hf:c.fits)(L:CrD F W s t d c Q)(o:Qo w0)(j:Qp w0)(a:¬F vR)(f:¬F zaR):
  Calls prog 22 #[(O s.p),(O d)] W fun e W'=>∃i m z ys,e=.returned (O i.x)/\i.d=d/\Two w0 W' F B1 B2 s t c Mp m2 S2 ns2 k2/\ZP W' c t i m z ys/\Q m:=by
 obtain⟨m,nh,t0,rs,S,fs,P,X,Z,y,G,Y,u,v,g⟩:=L;obtain⟨sn,ns,ks,us,hs⟩:=h.sh;refine(VE hs hr hf G Z y (by omega) X P (fun k r=>⟨fun e=>a (e▸u k r),fun e=>f (e▸u k r)⟩) (o.kept h.low a) (j.kept h.low f)).mono ?_;rintro e W' ⟨i,z,ys,rfl,H,V,hn,B,hp,l,w,U,R⟩;obtain⟨I,q,b⟩:=h.kept U (fun k q b=>v k b q) (fun k q b=>g k b q) (fun e=>a (u _ e)) u;refine⟨i,m,z,ys,rfl,H,I,⟨V,hn,B,hp,⟨nh,t0,G⟩,l,H▸w,fun k r e=>?_⟩,Y⟩;have C:=b k e;rcases R k r with e|e
 ·exact g k e C
 ·have:=h.alt2 k C;omega
theorem Two.same(h:Two w0 W F B1 B2 s t c Mp m2 S2 ns2 k2)(g:ZP W c t i m z ys)(b:c.ok)(a:ns2.length<4398046511104):
  Calls prog 24 #[(O i.x),(O t.i.x),(O t.p)] W fun e W'=>∃q,e=.returned (.bool q)/\Two w0 W' F B1 B2 s t c Mp m2 S2 ns2 k2/\ZP W' c t i m z ys/\(ya c z m2->q=true):=by
 obtain⟨n,f⟩:=g.at_.sok b;obtain⟨l,d⟩:=xh.sok h.ot.sh.mill b;refine(zna h.ot.sh g.at_.own (xh.own h.ot.sh.mill) b f.ok d.ok h.ot.nsok a).mono ?_;rintro e W' ⟨q,rfl,j,k⟩;exact⟨q,rfl,h.later j,g.later j h.tdl,k⟩
theorem Two.step(h:Two w0 W F B1 B2 s t c Mp m2 S2 ns2 k2)(P:ZP W c t i m z ys)(V:c.ok)(X:c.fits)(kd a b v:Int)(U: -9223372036854775808<=a/\a<=9223372036854775807)(hbb: -9223372036854775808<=b/\b<=9223372036854775807)(hv: -2147483648<=v/\v<=2147483647)(Y:k2<4398046511104)(C:ns2.length<4398046511104)(x:1<=kd/\kd<=6):
  Calls prog 13 #[(O t.p),.agg (kZz kd a b v)] W fun e W'=>∃n g j f l,e=.returned (.bool true)/\(n.p=t.p/\n.i=t.i)/\Two w0 W' F B1 B2 s n c Mp g j f l/\ZP W' c n i m z ys/\XL c 1 (zfL c 1 kd a b v) m2 g/\f.length<=ns2.length+1:=by
 refine(zoT h.ot V X kd a b v U hbb hv Y C x).mono ?_;rintro e W' ⟨q,rfl,S⟩;rcases S with⟨rfl,n,g,j,f,l,I,L,d,H,o,-,y,-⟩|⟨-,-,-,-,-,-,-,-,-,G,-⟩
 ·obtain⟨sn,ns,ks,us,K⟩:=h.sh;obtain⟨Q,R⟩:=K.other (B:=0) d (fun k r u=>h.ap k u r) h.ot.sh.atab;have w:=qp d.kept (fun e=>h.ap _ e (afd _ _)) (K.mp.dlt K.mill);exact⟨n,g,j,f,l,rfl,I,⟨⟨sn,ns,ks,us,Q⟩,L,H h.nev,fun k r u=>R k u r,h.low.trans d.kept (fun k _ e=>h.l2 k e),fun k e=>h.l0 k (A d.kept.size e),fun k e=>h.l1 k (w k e),fun k e=>(d.new k e).elim (h.l2 k) (h.l0 k)⟩,P.kept d.kept P.ap h.ot.sh.atab d.new,o,y⟩
 ·exact absurd h.nev G
def CrU(F:Nat->Prop)(W:N)(s t:Shp)(a:Ids)(d:Nat)(m:MS)(ys:List SX):Prop:=∃fs,Yt W d (jS 2 (xm m.now ys++nl)) fs/\(∀k,foot d fs k->F k)/\(∀k,foot d fs k->¬xW W s k)/\(∀k,foot d fs k->¬xW W t k)/\∀k,foot d fs k->¬zt W a k
theorem Two.crash2(h:Two w0 W F B1 B2 s t c Mp m2 S2 ns2 k2)(g:ZP W c t i m z ys)(x:c.ok)(keep:Int):
  Calls prog 23 #[(O i.d),I keep] W fun e W'=>e=.returned (O W.1.size)/\Two w0 W' F B1 B2 s t c Mp m2 S2 ns2 k2/\ZP W' c t i m z ys/\CrU F W' s t i W.1.size m ys:=by
 obtain⟨fs,l,-⟩:=g.dk;obtain⟨nh,t0,w⟩:=g.hist;obtain⟨C,-,-,-,-,y⟩:=ziM x w g.per;refine(zbc 0 i.d _ fs keep W 400000000000 (by decide) (zmG (by omega) (by omega) (by omega)) (Nat.zero_le _) l).mono ?_;rintro e W' ⟨rfl,j,p,n,B,o⟩;rw[VJ]at p;have b:∀k,foot W.1.size j k->W.1.size<=k:=fun k a=>by
  rcases a with e|e
  ·omega
  ·exact o k e
 obtain⟨v,q,r⟩:=h.kept (f:=fun _=>False) (zi.of_below n) (fun _ _ e=>e) (fun _ _ e=>e) (fun e=>e) (fun _ e=>e.elim);have u:=zP (f:=fun _=>False) (i:=i) (zi.of_below n) (fun e=>e) g.at_.dlt;refine⟨rfl,v,g.later n h.tdl,j,p,fun k a=>h.l0 k (b k a),fun k a e=>?_,fun k a e=>?_,fun k a e=>?_⟩
 ·have a1:=b k a;have a2:=h.alt1 k (q k e);omega
 ·have a1:=b k a;have a2:=h.alt2 k (r k e);omega
 ·have a1:=b k a;have a2:=g.at_.foot_lt k (u k e);omega
theorem Two.again2(h:Two w0 W F B1 B2 s t c Mp m2 S2 ns2 k2)(G:ZP W c t i m z ys)(R:qd c.s c.le c.la c.wi c.ke c.qu c.n c.F c.W c.K=true)(hf:c.fits)(U:CrU F W s t i d m ys)(l:Qo w0)(j:Qp w0)(b:¬F vR)(g:¬F zaR):
  Calls prog 22 #[(O s.p),(O d)] W fun e W'=>∃r u,e=.returned (O r.x)/\Two w0 W' F B1 B2 s t c Mp m2 S2 ns2 k2/\ZP W' c t i m z ys/\zF W' r c 3 u/\u.now=m.now/\qk (u.Gl,u.L) (m.Gl,m.L)/\xB c {u with TL:=[]} u.TL:=by
 have hc:=ja R;obtain⟨fs,V,q,v,w,y⟩:=U;obtain⟨nh,t0,H⟩:=G.hist;obtain⟨rs,hR,B,X,Z,-⟩:=ziM hc H G.per;obtain⟨sn,ns,ks,us,hs⟩:=h.sh;refine(VE hs R hf H hR B (by omega) Z V (fun k P=>⟨fun e=>b (e▸q k P),fun e=>g (e▸q k P)⟩) (l.kept h.low b) (j.kept h.low g)).mono ?_;rintro e W' ⟨r,u,a1,rfl,hi,Y,hn,C,hp,Q,a0,I,hF⟩;have o:¬foot d fs vR:=fun e=>b (q _ e);obtain⟨S,f,a⟩:=h.kept I (fun k f a=>v k a f) (fun k f a=>w k a f) o q;exact⟨r,u,rfl,S,G.kept I (fun k f a=>y k a f) o (fun k e=> .inl (a k e)),Y,hn,C,hp⟩
theorem Two.same2{l:Ids}(h:Two w0 W F B1 B2 s t c Mp m2 S2 ns2 k2)(k:ZP W c t i m z ys)(d:c.ok)(a:ns2.length<4398046511104)(j:zF W l c 3 u)(b:ya c u z):
  Calls prog 24 #[(O l.x),(O i.x),(O t.p)] W fun e W'=>e=.returned (.bool true)/\zi F w0 W':=by
 obtain⟨v,g⟩:=k.at_.sok d;obtain⟨r,f⟩:=j.sok d;refine(zna h.ot.sh j.own k.at_.own d f.ok g.ok h.ot.nsok a).mono ?_;rintro e W' ⟨q,rfl,n,o⟩;exact⟨by rw[o b],(h.later n).low⟩
end
structure zaJ(w0 W:N)(F:Nat->Prop)(B1 B2:Nat)(s t:Shp)(c:Cf)(m:MS)(S:DS)(ns:List Nm)(k:Nat)(m2:MS)(S2:DS)(ns2:List Nm)(k2:Nat)(r:RM):Prop where
 sh:jy W B1 s c m S ns k
 ot:jy W B2 t c m2 S2 ns2 k2
 nev:Nev S2
 ap:∀k,xW W t k->¬xW W s k
 low:zi F w0 W
 l0:∀k,W.1.size<=k->F k
 l1:∀k,xW W s k->F k
 l2:∀k,xW W t k->F k
 sim1:qV c 1 m r
 sim2:qV c 1 m2 r
 len:ns.length=ns2.length
structure zpx(w0 W:N)(F:Nat->Prop)(B1 B2:Nat)(s t:Shp)(c:Cf)(m:MS)(S:DS)(ns:List Nm)(k:Nat)(m2:MS)(S2:DS)(ns2:List Nm)(k2:Nat)(r:RM)(f:RM->RM)(nF:RM->Nat):Prop where
 sh:jy W B1 s c m S ns k
 ot:jy W B2 t c m2 S2 ns2 k2
 nev:Nev S2
 ap:∀k,xW W t k->¬xW W s k
 low:zi F w0 W
 l0:∀k,W.1.size<=k->F k
 l1:∀k,xW W s k->F k
 l2:∀k,xW W t k->F k
 sim1:qV c 1 m (f r)
 sim2:qV c 1 m2 r
 len:ns.length=ns2.length+nF r
section
variable {w0 W W':N} {F:Nat->Prop} {B1 B2:Nat} {s t:Shp} {c:Cf} {m:MS} {S:DS} {ns:List Nm} {k:Nat} {m2:MS} {S2:DS} {ns2:List Nm} {k2:Nat} {r:RM} {f:RM->RM} {nF:RM->Nat}
theorem zaJ.two(h:zaJ w0 W F B1 B2 s t c m S ns k m2 S2 ns2 k2 r):Two w0 W F B1 B2 s t c (fun w=>xh w s.i c m S) m2 S2 ns2 k2:=⟨⟨_,_,_,_,h.sh.sh⟩,h.ot,h.nev,h.ap,h.low,h.l0,h.l1,h.l2⟩
theorem zaJ.te(h:zaJ w0 W F B1 B2 s t c m S ns k m2 S2 ns2 k2 r):k=k2:=by
 have a:=h.sh.num;have b:=h.ot.num;have d:=h.sim1.picks;have e:=h.sim2.picks;omega
theorem zaJ.later(h:zaJ w0 W F B1 B2 s t c m S ns k m2 S2 ns2 k2 r)(b:T W.1.size W W'):zaJ w0 W' F B1 B2 s t c m S ns k m2 S2 ns2 k2 r:=by
 have a:=h.two.later b;exact⟨h.sh.later b,h.ot.later b,h.nev,a.ap,a.low,a.l0,a.l1,a.l2,h.sim1,h.sim2,h.len⟩
theorem zaJ.anew(h:zaJ w0 W F B1 B2 s t c m S ns k m2 S2 ns2 k2 r)(b:T W.1.size W W')(g:∀k,W'.1.size<=k->F' k)(d:∀k,k<W.1.size->F k->F' k):zaJ W' W' F' B1 B2 s t c m S ns k m2 S2 ns2 k2 r:=by
 have a:=h.two.anew (F':=F') (f:=fun _=>False) (zi.of_below b) (fun _ _ e=>e) (fun _ _ e=>e) (fun e=>e) (fun _ e=>e.elim) g (fun k e=>d k (h.two.alt1 k e) (h.l1 k e)) (fun k e=>d k (h.two.alt2 k e) (h.l2 k e));exact⟨h.sh.later b,h.ot.later b,h.nev,a.ap,a.low,a.l0,a.l1,a.l2,h.sim1,h.sim2,h.len⟩
theorem jy.rows(h:jy W B s c m S ns k):∃a1 a a2 b,W.cell? (U s.p 10)=E (.slice a1 ns.length a)/\W.cell? (U s.p 11)=E (.slice a2 k b)/\s.p<W.1.size:=by
 obtain⟨a1,e,j⟩:=zR h.sh.nrow;obtain⟨a2,f,d⟩:=zR h.sh.krow;rw[xP]at d;obtain⟨-,-,-,-,-,-,-,g,i,-⟩:=h.sh.cells;exact⟨a1,e,a2,f,by rw[g,j],by rw[i,d],h.sh.lt⟩
def Zg(w0 W:N)(F:Nat->Prop)(B1 B2:Nat)(s t:Shp)(c:Cf)(m m2:MS)(S2:DS)(ns2:List Nm)(k2:Nat)(f:RM->RM):Prop:=∃a:MS,Two w0 W F B1 B2 s t c (fun w=>vO w s.i c a (XL c 1 f m)) m2 S2 ns2 k2/\a.L=m.L/\a.Gl=m.Gl/\a.now=m.now
theorem zaJ.step1(h:zaJ w0 W F B1 B2 s t c m S ns k m2 S2 ns2 k2 r)(L:c.ok)(P:c.fits)(kd a b v:Int)(K: -9223372036854775808<=a/\a<=9223372036854775807)(hbb: -9223372036854775808<=b/\b<=9223372036854775807)(hv: -2147483648<=v/\v<=2147483647)(Q:k<4398046511104)(z:ns.length<4398046511104)(w:1<=kd/\kd<=6):
  Calls prog 13 #[(O s.p),.agg (kZz kd a b v)] W fun e W'=>∃q,e=.returned (.bool q)/\((q=true/\∃s' m' S' ns' l,s'.p=s.p/\zpx w0 W' F B1 B2 s' t c m' S' ns' l m2 S2 ns2 k2 r (zfL c 1 kd a b v) (nSt c kd a b v)/\ns'.length<=ns.length+1/\l<=k+1)\/(q=false/\∃s',s'.p=s.p/\Zg w0 W' F B1 B2 s' t c m m2 S2 ns2 k2 (zfL c 1 kd a b v))):=by
 refine(zoT h.sh L P kd a b v K hbb hv Q z w).mono ?_;rintro e W' ⟨q,rfl,I⟩;refine⟨q,rfl,?_⟩;rcases I with⟨rfl,s',m',S',ns',l,g,i,d,U,j,x,y,u⟩|⟨rfl,s',X,Y,V,Z,g,i,d,R,C,G,H⟩
 ·obtain⟨n,o⟩:=h.ot.sh.other (B:=0) d h.ap h.sh.sh.atab;have f:=qp d.kept (h.ap _ (afd _ _)) (h.ot.sh.mp.dlt h.ot.sh.mill);exact .inl ⟨rfl,s',m',S',ns',l,g.1,⟨i,⟨n,h.ot.num,h.ot.nsok⟩,h.nev,o,h.low.trans d.kept (fun k _ e=>h.l1 k e),fun k e=>h.l0 k (A d.kept.size e),fun k e=>(d.new k e).elim (h.l1 k) (h.l0 k),fun k e=>h.l2 k (f k e),j r h.sim1,h.sim2,by rw[x r h.sim1,h.len]⟩,y,u⟩
 ·obtain⟨n,o⟩:=h.ot.sh.other (B:=0) d h.ap h.sh.sh.atab;have f:=qp d.kept (h.ap _ (afd _ _)) (h.ot.sh.mp.dlt h.ot.sh.mill);exact .inr ⟨rfl,s',g.1,X,⟨⟨_,_,_,_,i⟩,⟨n,h.ot.num,h.ot.nsok⟩,h.nev,o,h.low.trans d.kept (fun k _ e=>h.l1 k e),fun k e=>h.l0 k (A d.kept.size e),fun k e=>(d.new k e).elim (h.l1 k) (h.l0 k),fun k e=>h.l2 k (f k e)⟩,C,G,H⟩
theorem zpx.cells(h:zpx w0 W F B1 B2 s t c m S ns k m2 S2 ns2 k2 r f nF):s.p<W.1.size/\t.p<W.1.size:=⟨h.sh.sh.lt,h.ot.sh.lt⟩
theorem zpx.step2{kd a b v:Int}(h:zpx w0 W F B1 B2 s t c m S ns k m2 S2 ns2 k2 r (zfL c 1 kd a b v) (nSt c kd a b v))(R:c.ok)(U:c.fits)(Q: -9223372036854775808<=a/\a<=9223372036854775807)(hbb: -9223372036854775808<=b/\b<=9223372036854775807)(hv: -2147483648<=v/\v<=2147483647)(V:k2<4398046511104)(z:ns2.length<4398046511104)(x:1<=kd/\kd<=6):
  Calls prog 13 #[(O t.p),.agg (kZz kd a b v)] W fun e W'=>∃n j g f i,e=.returned (.bool true)/\n.p=t.p/\zaJ w0 W' F B1 B2 s n c m S ns k j g f i (zfL c 1 kd a b v r):=by
 refine(zoT h.ot R U kd a b v Q hbb hv V z x).mono ?_;rintro e W' ⟨q,rfl,P⟩;rcases P with⟨rfl,n,j,g,f,i,H,I,d,G,l,y,Y,X⟩|⟨-,-,-,-,-,-,-,-,-,C,-⟩
 ·obtain⟨K,L⟩:=h.sh.sh.other (B:=0) d (fun k o u=>h.ap k u o) h.ot.sh.atab;have w:=qp d.kept (fun e=>h.ap _ e (afd _ _)) (h.sh.sh.mp.dlt h.sh.sh.mill);exact⟨n,j,g,f,i,rfl,H.1,⟨K,h.sh.num,h.sh.nsok⟩,I,G h.nev,fun k o u=>L k u o,h.low.trans d.kept (fun k _ e=>h.l2 k e),fun k e=>h.l0 k (A d.kept.size e),fun k e=>h.l1 k (w k e),fun k e=>(d.new k e).elim (h.l2 k) (h.l0 k),h.sim1,l r h.sim2,by rw[y r h.sim2,h.len]⟩
 ·exact absurd h.nev C
def zpq(c:Cf)(f:RM->RM)(r:RM)(m:MS):Prop:=∃a b,qV c 1 a b/\m.now=a.now/\m.Gl=a.Gl/\m.L=a.L/\(b=r\/b=f r)
theorem zpq.alike(h:zpq c f r m)(d:ZP W c t i m z ys)(q:qV c 1 m2 r)(g:∀x∈yJ m2.L m2.Gl,okN x):ya c z m2\/∀b,qV c 1 b (f r)->(∀x∈yJ b.L b.Gl,okN x)->ya c z b:=by
 obtain⟨k,w,e,p,l,n,v⟩:=h;obtain⟨nh,t0,u⟩:=d.hist;have a:∀x∈yJ k.L k.Gl,okN x:=by rw[<-l,<-n];exact u.okN
 have o:ya c z k:=ya.again e (d.now.trans p) (by rw[<-l,<-n];exact d.seg) d.pst;rcases v with rfl|rfl
 ·exact .inl (o.trans (e.alike q a g))
 ·exact .inr (fun b s j=>o.trans (e.alike s a j))
theorem zpq.two(h:zpq c f r m)(a:ZP W c t i m z ys)(hn:u.now=m.now)(o:qk (u.Gl,u.L) (m.Gl,m.L))(n:xB c {u with TL:=[]} u.TL):ya c u z:=by
 obtain⟨j,p,g,b,d,e,-⟩:=h;have k:ya c z j:=ya.again g (a.now.trans b) (by rw[<-d,<-e];exact a.seg) a.pst;have l:ya c u j:=ya.again g (hn.trans b) (by rw[<-d,<-e];exact o) n;exact l.trans k.symm
theorem xh.okN(h:xh W i c m S):∀x∈yJ m.L m.Gl,okN x:=by
 obtain⟨q,txt,ns,-,a,-⟩:=h;exact a.hist.okN
theorem zaJ.dsk(h:zaJ w0 W F B1 B2 s t c m S ns k m2 S2 ns2 k2 r)(b:c.ok):zgV W s.i c S (zpq c id r):=by
 have a:=xh.dsk h.sh.sh.mill b;exact⟨a.at_,a.dok,fun keep=>(a.crs keep).mono (fun x e=>by subst e;exact⟨_,r,h.sim1,rfl,rfl,rfl,.inl rfl⟩)⟩
theorem Zg.dsk(h:Zg w0 W F B1 B2 s t c m m2 S2 ns2 k2 f)(d:qV c 1 m r)(n:c.ok):∃S,zgV W s.i c S (zpq c f r)/\zj S=true:=by
 obtain⟨o,⟨⟨sn,ns,ks,us,b⟩,-⟩,g,j,k⟩:=h;obtain⟨S,a,l⟩:=vO.dsk b.mill n;refine⟨S,⟨a.at_,a.dok,fun keep=>(a.crs keep).mono (fun x e=>?_)⟩,l⟩;rcases e with rfl|e
 ·exact⟨m,r,d,k,j,g,.inl rfl⟩
 ·exact⟨x,f r,e r d,rfl,rfl,rfl,.inr rfl⟩
theorem Zg.cells(h:Zg w0 W F B1 B2 s t c m m2 S2 ns2 k2 f):W.cell? (U s.p 0)=E (O s.i.x)/\W.cell? (U s.p 1)=E (O s.i.d)/\W.cell? (U t.p 0)=E (O t.i.x)/\s.p<W.1.size/\t.p<W.1.size:=by
 obtain⟨b,a,-⟩:=h;exact a.cells
theorem Zg.low(h:Zg w0 W F B1 B2 s t c m m2 S2 ns2 k2 f):zi F w0 W/\F s.p/\F t.p:=by
 obtain⟨b,a,-⟩:=h;exact⟨a.low,a.l1 _ (.inl (.inl rfl)),a.l2 _ (.inl (.inl rfl))⟩
theorem Zg.two(h:Zg w0 W F B1 B2 s t c m m2 S2 ns2 k2 f):∃Mp,Two w0 W F B1 B2 s t c Mp m2 S2 ns2 k2:=by
 obtain⟨b,a,-⟩:=h;exact⟨_,a⟩
theorem zju{a b d e:Value}{l:Nat}(w:N):zi (fun k=>k=l) w ((((w.setCell (U l 0) a).setCell (U l 1) b).setCell (U l 2) d).setCell (U l 3) e):=zg (zg (zg (zg (zi.refl _ _) rfl) rfl) rfl) rfl
theorem Zg.set{lb:Nat}(h:Zg w0 W F B1 B2 s t c m m2 S2 ns2 k2 f)(i:zi (fun k=>k=lb) W W')(p:¬F lb)(q:lb≠vR):Zg W' W' F B1 B2 s t c m m2 S2 ns2 k2 f:=by
 obtain⟨r,a,e⟩:=h;have a1:∀k,xW W s k->¬k=lb:=fun k d g=>p (g▸a.l1 k d);have a2:∀k,xW W t k->¬k=lb:=fun k d g=>p (g▸a.l2 k d);obtain⟨sn,ns,ks,us,o⟩:=a.sh;have d:=qp i (a1 _ (afd _ _)) (o.mp.dlt o.mill);have g:=qp i (a2 _ (afd _ _)) (a.ot.sh.mp.dlt a.ot.sh.mill);have l:¬vR=lb:=fun e=>q e.symm;exact⟨r,⟨⟨sn,ns,ks,us,o.kept i (fun j b=>a1 j (.inl b)) (fun j b=>a1 j (.inr b)) l⟩,⟨a.ot.sh.kept i (fun j b=>a2 j (.inl b)) (fun j b=>a2 j (.inr b)) l,a.ot.num,a.ot.nsok⟩,a.nev,fun k n e=>a.ap k (g k n) (d k e),zi.refl _ _,fun k e=>a.l0 k (A i.size e),fun k e=>a.l1 k (d k e),fun k e=>a.l2 k (g k e)⟩,e⟩
theorem Zg.tick(h:Zg w0 W F B1 B2 s t c m m2 S2 ns2 k2 f)(o:c.ok):
  Calls prog 26 #[(O s.i.x),I 1] W fun e W'=>∃v:Int,e=.returned (I v)/\(v==0)=false/\Zg w0 W' F B1 B2 s t c m m2 S2 ns2 k2 f:=by
 obtain⟨d,b,g,j,k⟩:=h;obtain⟨sn,ns,ks,us,a⟩:=b.sh;refine(zpW a.mill o).mono ?_;rintro e W' ⟨v,rfl,hv,n,l⟩;exact⟨v,rfl,by simpa using hv,d,b.mill (yQ.lost s.i c d _) n l,g,j,k⟩
theorem Zg.stopped(h:Zg w0 W F B1 B2 s t c m m2 S2 ns2 k2 f)(k:c.ok):
  Calls prog 32 #[(O s.i.d)] W fun e W'=>e=.returned (.bool true)/\W'=W:=by
 obtain⟨p,⟨⟨sn,ns,ks,us,a⟩,-⟩,l,n,o⟩:=h;obtain⟨S,b,g⟩:=vO.dsk a.mill k;obtain⟨fs,j,-⟩:=b.at_;refine(vJ 0 s.i.d S fs W j).mono ?_;rintro e W' ⟨rfl,rfl⟩;exact⟨by rw[g],rfl⟩
end
theorem zgY.toH{p:Nat}(h:zgY W B p c 1 ⟨0,[],[],0,[],[]⟩ [] 0):∃s txt,s.p=p/\jy W B s c ⟨0,[],[],0,[],[]⟩ (jS 1 txt) [] 0:=by
 obtain⟨s,k,j,a,e,m,f,g⟩:=h;have b:k=0:=by omega
 subst b;obtain⟨S,d,-,txt,rfl⟩:=a.mill.toH;exact⟨s,txt,j,⟨⟨a.head,d,a.crow,a.nrow,a.krow,a.urow,a.lo,a.mlo,a.sep,a.dd,a.tb,yQ.up s.i c _ _⟩,e,fun x l=>by cases l⟩⟩
theorem zqS{w0:N}{F:Nat->Prop}{B1 B2:Nat}{t:Shp}{txt a:ByteArray}(f:jy W B1 s c ⟨0,[],[],0,[],[]⟩ (jS 1 txt) [] 0)(l:jy W B2 t c ⟨0,[],[],0,[],[]⟩ (jS 1 a) [] 0)(ap:∀k,xW W t k->¬xW W s k)(low:zi F w0 W)(l0:∀k,W.1.size<=k->F k)(l1:∀k,xW W s k->F k)(l2:∀k,xW W t k->F k){r:RM}(j:qV c 1 ⟨0,[],[],0,[],[]⟩ r)(n:Int)(hn:0<=n/\n<=1000):
  Calls prog 28 #[(O s.i.d),I n] W fun e W'=>e=.returned (.tuple #[])/\∃S,zaJ w0 W' F B1 B2 s t c ⟨0,[],[],0,[],[]⟩ S [] 0 ⟨0,[],[],0,[],[]⟩ (jS 1 a) [] 0 r:=by
 have m:Two w0 W F B1 B2 s t c (fun w=>xh w s.i c ⟨0,[],[],0,[],[]⟩ (jS 1 txt)) ⟨0,[],[],0,[],[]⟩ (jS 1 a) [] 0:=⟨⟨_,_,_,_,f.sh⟩,l,⟨rfl,rfl⟩,ap,low,l0,l1,l2⟩;refine(zpU f.sh.mill n hn).mono ?_;rintro e W' ⟨rfl,⟨S,h⟩,g⟩;have b:=m.mill (yQ.up s.i c _ S) h g;exact⟨rfl,S,⟨f.sh.putMill (yQ.up s.i c _ S) h g,f.num,f.nsok⟩,b.ot,b.nev,b.ap,b.low,b.l0,b.l1,b.l2,j,j,rfl⟩
theorem zfF(s le la wi ke qu:Int)(a:Option Addr)(n cap:Nat)(F0 W0 K0:Nat->Int)(sa:Option Addr)(n2 b8:Nat)(G:Nat->Js)(a6 keep:Int)(w:N)(ax:Qo w)(aL:Qp w)(h1: -9223372036854775808<=s/\s<=9223372036854775807)(h2: -9223372036854775808<=le/\le<=9223372036854775807)(h3: -9223372036854775808<=la/\la<=9223372036854775807)(h4: -9223372036854775808<=wi/\wi<=9223372036854775807)(h5: -9223372036854775808<=ke/\ke<=9223372036854775807)(h6: -9223372036854775808<=qu/\qu<=9223372036854775807)(br:TS w a n F0 W0 K0)(hn:n<=140737488355328)(hF:∀i,i<n-> -9223372036854775808<=F0 i/\F0 i<=9223372036854775807)(hW:∀i,i<n-> -9223372036854775808<=W0 i/\W0 i<=9223372036854775807)(hK:∀i,i<n-> -9223372036854775808<=K0 i/\K0 i<=9223372036854775807)(bh:KS w sa n2 G)(c3:n2<4398046511104)(hG:∀i,i<n2->(G i).fits)(ag: -9223372036854775808<=a6/\a6<=9223372036854775807):
  Calls prog 10 #[.agg #[I s,I le,I la,I wi,I ke,I qu,.slice a n cap],.slice sa n2 b8,I a6,I keep] w (Rz w (.bool true)):=by
 obtain⟨pk,cd,ce,aE⟩:=zev a6 200 ag (by omega);have bx:=fun W=>ze (aE W);clear aE;have aV:T w.1.size w (w.alloc (.cells #[I s,I le,I la,I wi,I ke,I qu,.slice a n cap] 27)):=(J _ _).alloc (D _) _;have q0:=zq w (.cells #[I s,I le,I la,I wi,I ke,I qu,.slice a n cap] 27);have aQ:=fun W (e:T w.1.size w W)=>ze (zly s le la wi ke qu a n cap F0 W0 K0 W (Za ax e) h1 h2 h3 h4 h5 h6 (br.below e) hn hF hW hK);obtain⟨r0,r1,r2,r3,r4,r5,r6,-⟩:=zc q0;have bm:=zd q0;have b3:=aQ _ aV;have aZ:=ze aV;have Q0:=ze q0;have af:=ze ax;have an:=ze aL;have bv:=ze bh;have HG:=ze hG;clear aV q0 h1 h2 h3 h4 h5 h6 br hF hW hK bh hG ax aL ag;go_enter func10,ntmps10;go_wp2_with fail;generalize(w.alloc (.cells #[I s,I le,I la,I wi,I ke,I qu,.slice a n cap] 27))=X at*;refine(ud b3).mono ?_;rintro e w1 ⟨c,p,bc,hr,hf,rfl,bo,av⟩;have bH:=(ud aZ).size;have aU:T w.1.size w w1:=(ud aZ).trans (av.mono bH);have q1:=(av.block _ bm).trans (ud Q0);obtain⟨r0,r1,r2,r3,r4,r5,r6,-⟩:=zc q1;have bn:=M bm av.size;have bU:=av.size;have aA:=aQ _ aU;have aP:=ze aU;have b5:=ze bo;have HR:=ze hr;have b1:=ze bc;clear av aU q1 bo hr aQ b3 bc;go_wp2_with fail;refine(ud aA).mono ?_;rintro e w2 ⟨c2,p2,aM,bF,bB,rfl,aN,Z⟩;have bA:c=c2:=(ud b1).trans aM.symm;subst bA;clear aM b1 bF bB;have hc:=ja (ud HR);obtain⟨s0,txt,aW,V⟩:=(ud b5).toH;obtain⟨s1,bT,bE,ak⟩:=aN.toH;have aJ:T w.1.size w w2:=(ud aP).trans (Z.mono (ud aP).size);have bb:∀k,xW w2 s1 k->¬xW w2 s0 k:=fun k e1 e2=>by
  have h1:=ak.sh.alo k e1;have h2:=V.sh.alt k (qp (f:=fun _=>False) (zi.of_below Z) (fun e=>e) (V.sh.mp.dlt V.sh.mill) k e2);omega
 have ca:=(ud aP).size;have cb:=Z.size;have aR:Hid (qV c 1 ⟨0,[],[],0,[],[]⟩ (zqd c 1 G 0)):=qV.new hc hf;have aT:=fun W (e:T w2.1.size w2 W)=>ze (zqS (w0:=w) (F:=fun k=>w.1.size<=k) ((V.later Z).later e) (ak.later e) (fun k e1 e2=>bb k (qp (f:=fun _=>False) (zi.of_below e) (fun e=>e) (ak.sh.mp.dlt ak.sh.mill) k e1) (qp (f:=fun _=>False) (zi.of_below e) (fun e=>e) ((V.later Z).sh.mp.dlt (V.later Z).sh.mill) k e2)) (zi.of_below (aJ.trans (e.mono (by omega)))) (fun k e9=>by have:=e.size;omega) (fun k e9=>by have:=((V.later Z).later e).sh.alo k e9;omega) (fun k e9=>by have:=(ak.later e).sh.alo k e9;omega) (ud aR) pk (by omega));have b6:=aT _ (J _ _);have aG:=aT _ (J _ _).drew;have c1:w2.cell? (U p 1)=E (O s0.i.d):=by rw[<-aW,<-(V.later Z).sh.dd,xR (V.later Z).sh.head];rfl
 have c7:p<w2.1.size:=by rw[<-aW];exact(V.later Z).sh.lt
 clear Z V ak bb aN aT b5 aA r0 r1 r2 r3 r4 r5 r6 bn aJ;go_wp2_with fail;refine qH 6 (by kernel_rfl) (by kernel_rfl) ?_;simp only[List.take_succ_cons,List.take_zero,List.drop_succ_cons,List.drop_zero];iterate 5 still_step
 still_call (ud (bx _));refine wpStill_nil ?_;go_wp2_with fail;refine(ud aG).mono ?_;rintro e w3 ⟨rfl,SS,R⟩;have bw:=ze (R.anew (F':=fun k=>w.1.size<=k/\k≠w3.1.size) (W':=w3.alloc zmD) ((J _ _).alloc (D _) _) (fun k e9=>by rw[zM]at e9;have h9:=R.low.size;omega) (fun k e9 e8=>⟨e8,by omega⟩));have ql:=zq w3 zmD;have hll:=zd ql;have bl:=R.low.size;have ba:T w.1.size w (w3.alloc zmD):=(R.low.below (D _) (fun _ e=>e)).trans ((J _ _).alloc bl _);have a5:=ze ba;have QL:=ze ql;clear R ql b6 aG c1 ba;go_wp2_with fail;generalize(w3.alloc zmD)=X3 at*;generalize w3.1.size=lb at*;have au:¬(w.1.size<=vR/\vR≠lb):=fun e=>by have:=(ud af).lt;omega
 have ar:¬(w.1.size<=zaR/\zaR≠lb):=fun e=>by have:=(ud an).lt;omega
 go_loopw [12,13,14] (fun y _ _ wr=>∃(t:Nat) (r:RM) (s' t':Shp) (m:MS) (S:DS) (ns:List Nm) (k:Nat) (m2:MS) (S2:DS) (ns2:List Nm) (k2:Nat),t<=n2/\y=I t/\(s'.p=p/\t'.p=p2)/\zaJ X3 wr (fun k=>w.1.size<=k/\k≠lb) X.1.size w1.1.size s' t' c m S ns k m2 S2 ns2 k2 r/\(ns.length<=t/\k<=t)) (fun y _ _ _=>n2-(intOf y).toNat);case atStart=>exact⟨0,_,s0,s1,_,_,[],0,_,_,[],0,Nat.zero_le _,rfl,⟨aW,bE⟩,ud bw,by simp,by omega⟩
 case round=>
  obtain⟨t,r,s',t',m,S,ns,k,m2,S2,ns2,k2,c9,rfl,⟨ad,C⟩,hP,c6,bX⟩:=hrel;have c5:(n2:Int)<=4398046511104:=by omega
  have bP:=hP.len;have bS:=hP.te;have aw:T w.1.size w wr:=(ud a5).trans (hP.low.below (ud a5).size (fun k e=>e.1));have ql:=(hP.low.block lb hll (fun e=>e.2 rfl)).trans (ud QL);have bj:=zd ql;obtain⟨l0,-⟩:=zc ql;have HP:=ze hP;clear hP;by_cases bk:t<n2
  ·have bQ:(t:Int)<n2:=(by omega);obtain⟨b,a9,bG,am,bd⟩:=ud bv (by omega);subst bG;obtain⟨g0,g1,g2,g3⟩:=bd t bk;have be:=ud HG t bk;generalize G t=o at*;obtain⟨kd,oa,ob,ov⟩:=o;obtain⟨fa,fb,fv⟩:=be;dsimp only at g0 g1 g2 g3 fa fb fv;have P:∀W,T w.1.size w W->Hid (W.cell? (U b (a9+t*4))=E (I kd)/\W.cell? (U b (a9+t*4+1))=E (I oa)/\W.cell? (U b (a9+t*4+2))=E (I ob)/\W.cell? (U b (a9+t*4+3))=E (int i32 ov)/\b<W.1.size):=fun W e=>⟨(e.cell (p:=(U b (a9+t*4))) am).trans g0,(e.cell (p:=(U b (a9+t*4+1))) am).trans g1,(e.cell (p:=(U b (a9+t*4+2))) am).trans g2,(e.cell (p:=(U b (a9+t*4+3))) am).trans g3,M am e.size⟩;obtain⟨y0,y1,y2,y3,ay⟩:=ud (P _ aw);clear g0 g1 g2 g3 bd am;by_cases bC:kd<1
   ·have bf:decide (kd<1)=true:=(by simpa using bC);clear fa fb fv aw ql P;go_wp2_with fail;exact⟨⟨t+1,r,s',t',m,S,ns,k,m2,S2,ns2,k2,by omega,by go_num,⟨ad,C⟩,ud HP,by omega,by omega⟩,by simp[intOf];omega⟩
   have bf:decide (kd<1)=false:=(by simp;omega);by_cases bD:6<kd
   ·have bg:decide (6<kd)=true:=(by simpa using bD);clear fa fb fv aw ql P;go_wp2_with fail;exact⟨⟨t+1,r,s',t',m,S,ns,k,m2,S2,ns2,k2,by omega,by go_num,⟨ad,C⟩,ud HP,by omega,by omega⟩,by simp[intOf];omega⟩
   have bg:decide (6<kd)=false:=(by simp;omega);have ae:=ze ((ud HP).step1 hc hf kd oa ob ov fa fb fv (by omega) (by omega) (by omega));rw[ad]at ae;clear aw ql;go_wp2_with fail;refine(ud ae).mono ?_;rintro e V1 ⟨q,rfl,hq⟩;clear y0 y1 y2 y3 ay l0 bj;rcases hq with⟨rfl,s3,m3,S3,bL,k3,a7,hM,c4,bW⟩|⟨rfl,s3,a7,hL⟩
   ·have al:T w.1.size w V1:=(ud a5).trans (hM.low.below (ud a5).size (fun k e=>e.1));obtain⟨y0,y1,y2,y3,ay⟩:=ud (P _ al);have B:=ze (hM.step2 hc hf fa fb fv (by omega) (by omega) (by omega));rw[C]at B;clear hM al ae P;go_wp2_with fail;refine(ud B).mono ?_;rintro e V2 ⟨t3,m4,S4,bM,k4,rfl,aO,aj⟩;obtain⟨a1,e1,a2,e2,bI,bJ,bK⟩:=aj.sh.rows;obtain⟨a3,e3,a4,e4,bs,bt,bN⟩:=aj.ot.rows;rw[<-aj.len]at bs;rw[<-aj.te]at bt;rw[a7]at bI bJ bK;rw[aO]at bs bt bN;have aA:=ze (aj.later (J _ _).drew);clear aj y0 y1 y2 y3 ay B;go_wp2_with fail;go_still (by kernel_rfl);go_wp2_with fail;exact⟨⟨t+1,_,s3,t3,m3,S3,bL,k3,m4,S4,bM,k4,by omega,by go_num,⟨a7,aO⟩,ud aA,by omega,by omega⟩,by simp[intOf];omega⟩
   ·have al:T w.1.size w V1:=(ud a5).trans (hL.low.1.below (ud a5).size (fun k e=>e.1));obtain⟨y0,y1,y2,y3,ay⟩:=ud (P _ al);have H:=(hL.low.1.block lb hll (fun e=>e.2 rfl)).trans (ud QL);obtain⟨l0,l1,l2,l3,-⟩:=zc H;have lf:=fun j=>zw H j;have c8:¬p=lb:=fun e=>hL.low.2.1.2 (a7.trans e);have a8:=a7;obtain⟨x0,x1,x2,x3,x4⟩:=hL.cells;rw[a8]at x0 x1 x3;rw[C]at x2 x4;have bV:(kd !=0)=true:=(by simp;omega);have aq:=ze hL;have aF:=ze H;have b0:=ze al;clear hL H al ae P;go_wp2_with fail;have b2:=ze ((ud aq).set (zju (a:=I kd) (b:=I oa) (d:=I ob) (e:=int i32 ov) (l:=lb) V1) (fun e=>e.2 rfl) (by have:=(ud af).lt;omega));have aB:=zcJ (ud b0) bl (I kd) (I oa) (I ob) (int i32 ov);have QY:=ze (KT (ud aF) (I kd) (I oa) (I ob) (int i32 ov));clear l0 l1 l2 l3 lf x0 x1 x2 x3 x4 aq aF b0 y0 y1 y2 y3 ay;generalize((((V1.setCell (U lb 0) (I kd)).setCell (U lb 1) (I oa)).setCell (U lb 2) (I ob)).setCell (U lb 3) (int i32 ov))=Y at*;have ai:=ze (Za (ud af) aB);have ah:=ze ((ud an).later aB);have ab:=ze aB;have bi:=zd (ud QY);have b7:=ze ((ud b2).tick hc);clear aB b2;refine(ud b7).mono ?_;rintro e Y1 ⟨v,rfl,hv,hL⟩;have b4:=ze (hL.stopped hc);obtain⟨x0,x1,x2,x3,x4⟩:=hL.cells;rw[a8]at x0 x1 x3;rw[C]at x2 x4;have H:=(hL.low.1.block lb bi (fun e=>e.2 rfl)).trans (ud QY);obtain⟨l0,-⟩:=zc H;have bY:=zd H;have aq:=ze hL;clear hL b7 H;go_wp2_with fail;refine(ud b4).mono ?_;rintro e Y2 ⟨rfl,bz⟩;subst bz;obtain⟨Mp,g⟩:=(ud aq).two;obtain⟨S9,hD,-⟩:=(ud aq).dsk (ud HP).sim1 hc;have HT:=ze g;have HD:=ze hD;clear g hD b4 x0 x1 x2 x3 x4;have ap:=ze ((ud HT).crash (ud HD) keep);obtain⟨x0,x1,x2,x3,x4⟩:=(ud HT).cells;rw[a8]at x0 x1 x3;rw[C]at x2 x4;clear HT HD;go_wp2_with fail;refine(ud ap).mono ?_;rintro e U0 ⟨rfl,g,hC⟩;have aa:=ze (g.again (ud HR) hf hC (ud ai) (ud ah) au ar);rw[a8]at aa;clear g hC ap x0 x1 x2 x3 x4;go_wp2_with fail;refine(ud aa).mono ?_;rintro e Z1 ⟨iz,mz,z,ys,rfl,aC,g,x,ac⟩;have Q:=ze (g.same x hc (by omega));rw[C]at Q;obtain⟨x0,x1,x2,x3,x4⟩:=g.cells;rw[a8]at x0 x1 x3;rw[C]at x2 x4;have a0:=ze (ac.alike x (ud HP).sim2 (xh.okN (ud HP).ot.sh.mill));have az:=ze ac;clear g x ac aa;go_wp2_with fail;refine(ud Q).mono ?_;rintro e Z2 ⟨q,rfl,g,x,hq⟩;clear Q x0 x1 x2 x3 x4;cases q with
    |true=>
     clear a0;have L:=ze (g.crash2 x hc 0);rw[aC]at L;clear g x hq;go_wp2_with fail;refine(ud L).mono ?_;rintro e U1 ⟨rfl,g,x,hC⟩;have K:=ze (g.again2 x (ud HR) hf hC (ud ai) (ud ah) au ar);rw[a8]at K;clear g x hC L;go_wp2_with fail;refine(ud K).mono ?_;rintro e U2 ⟨iu,u,rfl,g,x,hM,hn,hs,hp⟩;have B:=ze (g.same2 x hc (by omega) hM ((ud az).two x hn hs hp));rw[C]at B;clear g x hM hn hs hp K;go_wp2_with fail;refine(ud B).mono ?_;rintro e U3 ⟨rfl,hb⟩;have ao:=ze ((ud ab).trans (hb.below (ud ab).size (fun k e=>e.1)));clear hb B;go_wp2_with fail;go_ret;exact⟨rfl,ud ao⟩
    |false=>
     have aH:=(ud a0).resolve_left (fun h=>by cases hq h);have aS:=ze (g.step x hc hf kd oa ob ov fa fb fv (by omega) (by omega) (by omega));rw[C]at aS;have H:=(g.low.block lb bi (fun e=>e.2 rfl)).trans (ud QY);obtain⟨l0,l1,l2,l3,-⟩:=zc H;have bZ:=zd H;have bO:(kd==0)=false:=(by simp;omega);have aD:=ze aH;clear g x hq a0 aH H;go_wp2_with fail;refine(ud aS).mono ?_;rintro e Z3 ⟨t5,m5,S5,cc,k5,rfl,⟨bq,bp⟩,g,x,aK,c0⟩;have aI:ya c z m5:=ud aD m5 (aK r (ud HP).sim2) (xh.okN g.ot.sh.mill);have aY:=bq;have Q:=ze (g.same x hc (by omega));rw[aY]at Q;obtain⟨x0,x1,x2,x3,x4⟩:=g.cells;rw[a8]at x0 x1 x3;rw[aY]at x2 x4;have bu:=ze aI;clear g x aK aS l0 l1 l2 l3 aI aD bp;go_wp2_with fail;refine(ud Q).mono ?_;rintro e Z4 ⟨q,rfl,g,x,hq⟩;have aX:=hq (ud bu);subst aX;clear Q x0 x1 x2 x3 x4;have L:=ze (g.crash2 x hc 0);rw[aC]at L;clear g x hq;go_wp2_with fail;refine(ud L).mono ?_;rintro e U1 ⟨rfl,g,x,hC⟩;have K:=ze (g.again2 x (ud HR) hf hC (ud ai) (ud ah) au ar);rw[a8]at K;clear g x hC L;go_wp2_with fail;refine(ud K).mono ?_;rintro e U2 ⟨iu,u,rfl,g,x,hM,hn,hs,hp⟩;have B:=ze (g.same2 x hc (by omega) hM ((ud az).two x hn hs hp));rw[aY]at B;clear g x hM hn hs hp K;go_wp2_with fail;refine(ud B).mono ?_;rintro e U3 ⟨rfl,hb⟩;have ao:=ze ((ud ab).trans (hb.below (ud ab).size (fun k e=>e.1)));clear hb B;go_wp2_with fail;go_ret;exact⟨rfl,ud ao⟩
  ·have bR:decide ((t:Int)<n2)=false:=(by simp;omega);have HT:=ze (ud HP).two;have HD:=ze ((ud HP).dsk hc);have ai:=ze (Za (ud af) (ud a5));have ah:=ze ((ud an).later (ud a5));have ab:=a5;clear aw ql;have ap:=ze ((ud HT).crash (ud HD) keep);obtain⟨x0,x1,x2,x3,x4⟩:=(ud HT).cells;rw[ad]at x0 x1 x3;rw[C]at x2 x4;clear HT HD;go_wp2_with fail;refine(ud ap).mono ?_;rintro e U0 ⟨rfl,g,hC⟩;have aa:=ze (g.again (ud HR) hf hC (ud ai) (ud ah) au ar);rw[ad]at aa;clear g hC ap x0 x1 x2 x3 x4;go_wp2_with fail;refine(ud aa).mono ?_;rintro e Z1 ⟨iz,mz,z,ys,rfl,aC,g,x,ac⟩;have Q:=ze (g.same x hc (by omega));rw[C]at Q;obtain⟨x0,x1,x2,x3,x4⟩:=g.cells;rw[ad]at x0 x1 x3;rw[C]at x2 x4;have a0:=ze (ac.alike x (ud HP).sim2 (xh.okN (ud HP).ot.sh.mill));have az:=ze ac;clear g x ac aa;go_wp2_with fail;refine(ud Q).mono ?_;rintro e Z2 ⟨q,rfl,g,x,hq⟩;clear Q x0 x1 x2 x3 x4;have b9:ya c z m2:=(ud a0).elim id (fun h=>h m2 (ud HP).sim2 (xh.okN (ud HP).ot.sh.mill));have aX:=hq b9;subst aX;clear a0 b9;have L:=ze (g.crash2 x hc 0);rw[aC]at L;clear g x hq;go_wp2_with fail;refine(ud L).mono ?_;rintro e U1 ⟨rfl,g,x,hC⟩;have K:=ze (g.again2 x (ud HR) hf hC (ud ai) (ud ah) au ar);rw[ad]at K;clear g x hC L;go_wp2_with fail;refine(ud K).mono ?_;rintro e U2 ⟨iu,u,rfl,g,x,hM,hn,hs,hp⟩;have B:=ze (g.same2 x hc (by omega) hM ((ud az).two x hn hs hp));rw[C]at B;clear g x hM hn hs hp K;go_wp2_with fail;refine(ud B).mono ?_;rintro e U3 ⟨rfl,hb⟩;have ao:=ze ((ud ab).trans (hb.below (ud ab).size (fun k e=>e.1)));clear hb B;go_wp2_with fail;go_ret;exact⟨rfl,ud ao⟩
end Go.Proofs.YtndhpgciopcncaaGreatDoor
namespace Go.Proofs.YtndhpgciopcncaaGreatDoor
open Go.ChangeShapes Go.WideShapes Go.ChangeAt Go.RowKit
theorem zic:ownKnob prog.godebug=none:=by kernel_rfl
theorem vg:laidOutB prog=true:=by kernel_rfl
theorem zbq(os:Os)(g:os.Started)(H:Type)(enc:TypeId×Value->H):
  ReturnsInHanded {} Tryz.checked os 10 .any (fun w args=>(Rows.haltedSpec.pre enc prog Tryz.f10 [] false w args/\laidMetH prog zkm w)/\sizedMet enc prog Tryz.f10 (OpenSpec.ofChange Rows.haltedSpec) false w args) (Rows.haltedSpec.post enc prog Tryz.f10 false true false false):=by
 refine returnsInHanded_of_change_and (C:=Tryz.checked) (X:=fun w _=>laidMetH prog zkm w) (fun _ _ _ hh h=>h.of_heap hh) zic g (by kernel_rfl) func10
  (ChangeSpec.witness_shaped (enc:=enc) (C:=Tryz.checked) (os:=os) (X:=fun w _=>laidMetH prog zkm w) false (World.laidAll prog os zkm) #[.agg #[I 0,I 0,I 0,I 0,I 0,I 0,.slice none 0 0],.slice none 0 0,I 0,I 0] 8 (World.laidAll_os _ _ _)
   (World.shaped_of_ZipB (by kernel_rfl) (by kernel_rfl)) (by kernel_rfl) (by kernel_rfl) (by kernel_rfl) (zon os _)) ?_
 intro W base args ds gs Y d hW ad S k _;have b:∀(j:Nat) t v,Tryz.f10.params[j]?=E t->args[j]?=E v->Value.okWide prog W .any base t v:=d;have B:(DataW.weightsEach prog (Tryz.f10.params.toList++Rows.haltedSpec.plain.varTypes prog) (ds++gs)).all (· <=reachBytes)=true:=S;have Z:=hW;obtain⟨p,q,L,hV,rfl,ak,al⟩:=hW;have hA:DataW.TrodAll enc prog W 0 (fun _=>true) true Tryz.f10.params.toList args.toList ds p:=L;rw[params10]at hA b B;obtain⟨v0,am,d0,ae,p0,q0,a3,rfl,rfl,h0,r0⟩:=trodAll_cons hA;obtain⟨v1,an,d1,af,p1,q1,rfl,rfl,rfl,h1,r1⟩:=trodAll_cons r0;obtain⟨v2,ao,d2,ag,p2,q2,rfl,rfl,rfl,h2,r2⟩:=trodAll_cons r1;obtain⟨v3,ap,d3,ah,p3,q3,rfl,rfl,rfl,h3,r3⟩:=trodAll_cons r2;obtain⟨rfl,rfl,rfl⟩:=trodAll_nil r3;obtain rfl:args=#[v0,v1,v2,v3]:=by cases args;simp_all
 obtain⟨rfl,rfl⟩:=trodVars_none hV;obtain⟨cs,rfl,aj⟩:=okWide_struct underlying27 (b 0 27 v0 rfl rfl);obtain⟨a1,f,c,rfl⟩:=okWide_slice underlying28 (b 1 28 v1 rfl rfl);obtain⟨st,rfl⟩:=okWide_int underlying3 (b 2 3 v2 rfl rfl);obtain⟨kp,rfl⟩:=okWide_int underlying3 (b 3 3 v3 rfl rfl);have k0:=h0;have k1:=h1;have k2:=h2;have k3:=h3;have a8:∀x∈p0,x.block<W.1.size:=by obtain⟨m,z⟩:=k0;exact DataW.trod_lt m _ _ _ z
 have a9:∀x∈p1,x.block<W.1.size:=by obtain⟨m,z⟩:=k1;exact DataW.trod_lt m _ _ _ z
 have aa:∀x∈p2,x.block<W.1.size:=by obtain⟨m,z⟩:=k2;exact DataW.trod_lt m _ _ _ z
 have ab:∀x∈p3,x.block<W.1.size:=by obtain⟨m,z⟩:=k3;exact DataW.trod_lt m _ _ _ z
 obtain⟨fuel,hf⟩:=h0;obtain⟨r,Q⟩:=h1;obtain⟨u,R⟩:=h2;have P:DataW.trod enc prog W 0 (fun _=>true) true fuel 27 cs.toList=E (d0,p0):=by simpa[Value.cells]using hf
 have l:DataW.trod enc prog W 0 (fun _=>true) true r 28 [.slice a1 f c]=E (d1,p1):=by simpa[Value.cells]using Q
 obtain⟨s,le,la,wi,ke,qu,a,n,cap,Fr,Wd,K,ai,a7,⟨b1,b2,b3,b4,b5,b6⟩,⟨hF,a0,hK⟩,U⟩:=zbA P;have O:cs=#[I s,I le,I la,I wi,I ke,I qu,.slice a n cap]:=by cases cs;simp_all
 have hn:n<=140737488355328:=by
  have:=U (fun y hy=>by
   have:=List.all_eq_true.1 B y (DataW.weights_mem_each (j:=0) rfl rfl y hy);simpa using this)
  simp only[reachBytes]at this;omega
 obtain⟨a2,n2,ac,G,hc2,a4,a5,hG⟩:=zdf l (fun y hy=>by
  have:=List.all_eq_true.1 B y (DataW.weights_mem_each (j:=1) rfl rfl y hy);simpa using this)
 simp at hc2;obtain⟨rfl,rfl,rfl⟩:=hc2;have o:DataW.trod enc prog W 0 (fun _=>true) true u 3 [I st]=E (d2,p2):=by simpa[Value.cells]using R
 obtain⟨st',F,_,V⟩:=DataW.trod_int underlying3 o;have i:st=st':=by simpa using F
 have a6: -9223372036854775808<=st/\st<=9223372036854775807:=by rw[i];exact kP V
 clear R o F V i;clear L d hf P U Q l;refine(show Calls prog 10 #[.agg cs,.slice a1 f c,I st,I kp] W _ from O▸zfF s le la wi ke qu a n cap Fr Wd K a1 f c G st kp W (zdN k) (zcH k) b1 b2 b3 b4 b5 b6 a7 hn hF a0 hK a4 a5 hG a6).mono fun e W' ⟨he,bel⟩=>?_;subst he;exact⟨_,rfl,_,_,_,[],_,[],Z,trodAll_mk1 (shut_bool underlying4 _),(trodAll_cons_mk (Below.trod vg (by kernel_rfl) (of_decide_eq_true (by kernel_rfl)) k0 bel a8) (trodAll_cons_mk (Below.trod vg (by kernel_rfl) (of_decide_eq_true (by kernel_rfl)) k1 bel a9) (trodAll_cons_mk (Below.trod vg (by kernel_rfl) (of_decide_eq_true (by kernel_rfl)) k2 bel aa) (trodAll_cons_mk (Below.trod vg (by kernel_rfl) (of_decide_eq_true (by kernel_rfl)) k3 bel ab) trodAll_mk0)))),rfl,bel.frame _,fun h=>by cases h⟩
theorem zbr:Rows.HaltedSaid:=
 OpenClaim.holds_of_wide 10 Tryz.f10 rfl rfl rfl rfl rfl rfl rfl ⟨rfl,rfl,rfl,rfl,rfl⟩ rfl rfl rfl rfl rfl (by kernel_rfl) func10 zbp
  (of_decide_eq_true (by kernel_rfl)) (by unfold Func.isWrapper;first|(rw[if_pos (by decide+kernel)];kernel_rfl)|(rw[if_neg (by decide+kernel)];exact⟨rfl,rfl⟩))
  (fun os a H enc _=>zbq os a H enc)
theorem haltedCard_holds:Rows.HaltedCardSaid:=
 Claim7.holds_tied_plain_at .later [] [.data,.data,.data,.sentinel,.sentinel,.listed,.data] true (true, "e4703e471f700b14ef4f5b2136a5b11b72e3551741bf1531b3f191eeb70a92c1") true
  zbr (fun _ h=>by cases h) (by kernel_rfl) (fun _ h=>by cases h) halted_row_tie rfl ⟨rfl,rfl⟩ (by kernel_rfl) rfl
  (fun f fn d b=>by
   obtain rfl:f=10:=Option.some.inj ((show prog.funcNamed "mill/millkeep.Halted" =E 10 by kernel_rfl).symm.trans d)|>.symm;obtain rfl:fn=Tryz.f10:=(Option.some.inj (func10.symm.trans b)).symm;exact⟨by kernel_rfl,fun j t c=>by
    rw[params10]at c;have e:t∈[27,28,3,3]:=(by simpa using Array.mem_of_getElem? c);have a:([27,28,3,3].all fun u=>!prog.wantsStandIn u)=true:=(by kernel_rfl);exact(show prog.wantsStandIn t=false by simpa using List.all_eq_true.1 a t e)⟩)
  (by kernel_rfl)
#print axioms haltedCard_holds
end Go.Proofs.YtndhpgciopcncaaGreatDoor
