import Derived.Test.YtpbimdkclnekeaaGreatVRefR
import Derived.Test.YtpbimdkclnekeaaGreatVDsk7
import Derived.Deep.RegionHeld3
open Go.Value renaming int → I
open Go.IntKind renaming i64 → J
open Option renaming none → O
open Option renaming some → E
open Nat renaming le_refl → Q
open Go renaming World → Y
set_option linter.unusedVariables false
set_option maxRecDepth 8000
set_option maxHeartbeats 4000000
open Go.Proofs.Tryz
namespace Go.Proofs.YtpbimdkclnekeaaGreat
open Go.RowKit Go.Maps Go.Shelf
theorem zdw{w:Y}{base g size:Nat}{e:TypeId}{cs:Array Value}(h:w.1[g]?=E (.cells cs e (0,0)))(b:cs.size=0)(a:base<=g):w.ownsRow base e size (.slice (E ⟨g,0,O⟩) 0 0) 0 []:=
 ⟨by simp,.inr ⟨g,0,cs,rfl,a,h,⟨Q _,by simp[maxLen],by simp[b],by simp⟩⟩⟩
theorem zeD(c:Cf)(D:c.ok)(a:Option Addr)(cap:Nat)(w:Y)(h:TS w a c.n c.F c.W c.K):
  Calls prog 124 #[.slice a c.n cap] w fun e w'=>∃g d,e=.returned (.slice (E ⟨g,0,O⟩) c.n d)/\w'.ownsRow w.1.size 66 3 (.slice (E ⟨g,0,O⟩) c.n d) c.n (Xk c.n c.F c.W c.K)/\Below w.1.size w w':=by
 have R:=D.n1
 have S:=D.n4
 have B:=zgT h
 obtain⟨ad,t,r⟩:=B (by rw[xl];omega)
 subst t
 have f:∀o,Below w.1.size w (w.alloc o):=fun o=>(Below.refl _ _).alloc (Q _) _
 have hnews:∀o,∀j u,(Xk c.n c.F c.W c.K)[j]?=E u->(w.alloc o).cell? (ad.add j)=E u:=fun o j u T=>by
  have C:=r j u T
  obtain⟨b,l,N,v,_⟩:=h (by omega)
  cases N
  have q:(⟨b,l,O⟩:Addr).add j=⟨b,l+j,O⟩:=by unfold Addr.add;split<;>simp_all
  rw[q]at C ⊢
  exact((f o).cell (p:=⟨b,l+j,O⟩) v).trans C
 have G:(binOp .eql 25 (.slice (E ad) c.n cap) (.slice O 0 0)).run prog w=.ok (.bool false) w:=by kernel_rfl
 have L:=ze hnews
 have x:0<c.n:=by omega
 have y:0+c.n<=maxLen:=by simp only[maxLen];omega
 have z:(0+c.n)*24<=140737488355328:=by omega
 have A:∀o,w.1.size<=(w.alloc o).1.size:=fun o=>by rw[zF];omega
 clear h B r hnews
 go_enter func124,ntmps124
 go_wp2_with(first|(at_builtin;refine zP rfl _ _ 25 rfl w.1.size 66 _ 3 24 underlying25 Tryz.infoTierR rfl (by decide) (.slice (E ⟨w.1.size,0,O⟩) 0 0) 0 [] rfl (zdw (zo _ _) rfl (Q _)) ad c.n cap (Xk c.n c.F c.W c.K) rfl (xl _ _ _ _) (ud L _) (VG _ _ _ _) x y z (A _) ?_;intro g m U s H i M P)|go_in)
 go_ret
 refine⟨g,m,by simp,by simpa using s,?_⟩
 exact(f _).grown i (f _).size (fun k e=>by cases e;exact Q _)
theorem set7{w:Y}{g:Nat}{a b c d e f i:Value}{t:TypeId}{n:Nat×Nat}(h:w.1[g]?=E (.cells #[a,b,c,d,e,f,i] t n))(j k l m o p q:Value):(((((((w.setCell ⟨g,0,O⟩ j).setCell ⟨g,1,O⟩ k).setCell ⟨g,2,O⟩ l).setCell ⟨g,3,O⟩ m).setCell ⟨g,4,O⟩ o).setCell ⟨g,5,O⟩ p).setCell ⟨g,6,O⟩ q).1[g]?=E (.cells #[j,k,l,m,o,p,q] t n):=by
 have r:(w.setCell ⟨g,0,O⟩ j).1[g]?=E (.cells #[j,b,c,d,e,f,i] t n):=xm (i:=0) h j
 have s:((w.setCell ⟨g,0,O⟩ j).setCell ⟨g,1,O⟩ k).1[g]?=E (.cells #[j,k,c,d,e,f,i] t n):=xm (i:=1) r k
 have u:(((w.setCell ⟨g,0,O⟩ j).setCell ⟨g,1,O⟩ k).setCell ⟨g,2,O⟩ l).1[g]?=E (.cells #[j,k,l,d,e,f,i] t n):=xm (i:=2) s l
 have v:((((w.setCell ⟨g,0,O⟩ j).setCell ⟨g,1,O⟩ k).setCell ⟨g,2,O⟩ l).setCell ⟨g,3,O⟩ m).1[g]?=E (.cells #[j,k,l,m,e,f,i] t n):=xm (i:=3) u m
 have x:(((((w.setCell ⟨g,0,O⟩ j).setCell ⟨g,1,O⟩ k).setCell ⟨g,2,O⟩ l).setCell ⟨g,3,O⟩ m).setCell ⟨g,4,O⟩ o).1[g]?=E (.cells #[j,k,l,m,o,f,i] t n):=xm (i:=4) v o
 have y:((((((w.setCell ⟨g,0,O⟩ j).setCell ⟨g,1,O⟩ k).setCell ⟨g,2,O⟩ l).setCell ⟨g,3,O⟩ m).setCell ⟨g,4,O⟩ o).setCell ⟨g,5,O⟩ p).1[g]?=E (.cells #[j,k,l,m,o,p,i] t n):=xm (i:=5) x p
 have z:(((((((w.setCell ⟨g,0,O⟩ j).setCell ⟨g,1,O⟩ k).setCell ⟨g,2,O⟩ l).setCell ⟨g,3,O⟩ m).setCell ⟨g,4,O⟩ o).setCell ⟨g,5,O⟩ p).setCell ⟨g,6,O⟩ q).1[g]?=E (.cells #[j,k,l,m,o,p,q] t n):=xm (i:=6) y q
 exact z
theorem zhL(c:Cf)(L:c.ok)(a:Option Addr)(cap:Nat)(w:Y)(h:TS w a c.n c.F c.W c.K):
  Calls prog 63 #[.agg #[I J c.s,I J c.le,I J c.la,I J c.wi,I J c.ke,I J c.qu,.slice a c.n cap]] w fun e w'=>∃g l,e=.returned (.agg #[I J c.s,I J c.le,I J c.la,I J c.wi,I J c.ke,I J c.qu,.slice (E ⟨g,0,O⟩) c.n l])/\w'.ownsRow w.1.size 66 3 (.slice (E ⟨g,0,O⟩) c.n l) c.n (Xk c.n c.F c.W c.K)/\Below w.1.size w w':=by
 obtain⟨D,M,p,N⟩:=box2 w (.cells #[I J c.s,I J c.le,I J c.la,I J c.wi,I J c.ke,I J c.qu,.slice a c.n cap] 27) (.cells #[I J 0,I J 0,I J 0,I J 0,I J 0,I J 0,.slice O 0 0] 80)
 have R:=ze (zeD c L a cap _ (h.below p))
 obtain⟨-,-,-,-,-,-,x6,-⟩:=zc D
 clear h
 go_enter func63,ntmps63
 have S:=ze D
 have T:=ze M
 have o:=ze p
 have G:=ze N
 clear D M p N
 go_wp2_with fail
 generalize((w.alloc (.cells #[I J c.s,I J c.le,I J c.la,I J c.wi,I J c.ke,I J c.qu,.slice a c.n cap] 27)).alloc (.cells #[I J 0,I J 0,I J 0,I J 0,I J 0,I J 0,.slice O 0 0] 80))=X at*
 refine(ud R).mono ?_
 rintro e z ⟨g,b,rfl,m,d⟩
 have t:w.1.size<X.1.size:=by rw[ud G];omega
 have C:w.1.size+1<X.1.size:=by rw[ud G];omega
 have u:=(d.block w.1.size t).trans (ud S)
 have x:=(d.block (w.1.size+1) C).trans (ud T)
 obtain⟨z0,z1,z2,z3,z4,z5,z6,-⟩:=zc u
 have zf:=fun j=>zD u j
 obtain⟨r0,r1,r2,r3,r4,r5,r6,-⟩:=zc x
 have rf:=fun j=>zD x j
 have Z:=ze u
 have P:=ze x
 have f:=ze m
 have A:=ze d
 clear u x m d
 go_wp2_with fail
 have B:=zT (w:=z) (g:=w.1.size) (i:=6) (k:=w.1.size+1) (v:=.slice (E ⟨g,0,O⟩) c.n b) (by omega)
 have V:=set7 (B.trans (ud P)) (I J c.s) (I J c.le) (I J c.la) (I J c.wi) (I J c.ke) (I J c.qu) (.slice (E ⟨g,0,O⟩) c.n b)
 have r:Below X.1.size X z:=ud A
 have q:zk (fun k=>k=w.1.size\/k=w.1.size+1) z ((((((((z.setCell ⟨w.1.size,6,O⟩ (.slice (E ⟨g,0,O⟩) c.n b)).setCell ⟨w.1.size+1,0,O⟩ (I J c.s)).setCell ⟨w.1.size+1,1,O⟩ (I J c.le)).setCell ⟨w.1.size+1,2,O⟩ (I J c.la)).setCell ⟨w.1.size+1,3,O⟩ (I J c.wi)).setCell ⟨w.1.size+1,4,O⟩ (I J c.ke)).setCell ⟨w.1.size+1,5,O⟩ (I J c.qu)).setCell ⟨w.1.size+1,6,O⟩ (.slice (E ⟨g,0,O⟩) c.n b)):=
  zn (zn (zn (zn (zn (zn (zn (zn (zk.refl _ _) (.inl rfl)) (.inr rfl)) (.inr rfl)) (.inr rfl)) (.inr rfl)) (.inr rfl)) (.inr rfl)) (.inr rfl)
 refine bodyPost_ret (v:=.agg #[I J c.s,I J c.le,I J c.la,I J c.wi,I J c.ke,I J c.qu,.slice (E ⟨g,0,O⟩) c.n b]) (results_cell_row results63 _ _ (w.1.size+1) _ _ _ _ rfl V underlying80 rfl (by kernel_rfl)) rfl ?_
 refine⟨g,b,rfl,?_,(ud o).trans ((r.mono (ud o).size).trans (q.below (Nat.le_trans (ud o).size r.size) (fun k y=>by rcases y with rfl|rfl<;>omega)))⟩
 refine yE (zi (ud f) q (fun k y=>?_)) (Nat.le_of_lt t)
 have:X.1.size<=k:=by
  have hg:k=g:=by simp[Value.ownBlock]at y;exact y.symm
  obtain⟨g2,H,hv,U,_⟩:=(ud f).form (by have:=L.n1;omega)
  cases hv;omega
 omega
theorem zij(c:Cf)(a:Option Addr)(cap:Nat)(w:Y):
  Calls prog 64 #[.agg #[I J c.s,I J c.le,I J c.la,I J c.wi,I J c.ke,I J c.qu,.slice a c.n cap]] w fun e w'=>∃s lb gb,e=.returned (.pointer (E ⟨s,0,O⟩))/\w.1.size<=s/\w.1.size<=lb/\w.1.size<=gb/\gb≠lb/\w'.1[s]?=E (.cells #[I J c.s,I J c.le,I J c.la,I J c.wi,I J c.ke,I J c.qu,.slice a c.n cap,.map (E lb),.map (E gb)] 140 (0,0))/\yj w' lb []/\xh XD w' gb []/\Below w.1.size w w':=by
 have j:∀W:Y,(Instr.makeMap 135 O).run prog W=.ok (.map (E W.1.size)) (W.alloc (.map #[] 0)):=fun W=>by kernel_rfl
 have k:∀W:Y,(Instr.makeMap 138 O).run prog W=.ok (.map (E W.1.size)) (W.alloc (.map #[] 0)):=fun W=>by kernel_rfl
 go_enter func64,ntmps64
 go_wp2_with fail
 go_ret
 obtain⟨i,f,g,b,h⟩:=jr w (.cells #[I J c.s,I J c.le,I J c.la,I J c.wi,I J c.ke,I J c.qu,.slice a c.n cap] 80) (.map #[] 0) (.map #[] 0)
 generalize(((w.alloc (.cells #[I J c.s,I J c.le,I J c.la,I J c.wi,I J c.ke,I J c.qu,.slice a c.n cap] 80)).alloc (.map #[] 0)).alloc (.map #[] 0))=X at*
 have d:=zo X (.cells #[I J c.s,I J c.le,I J c.la,I J c.wi,I J c.ke,I J c.qu,.slice a c.n cap,.map (E (w.1.size+1)),.map (E (w.1.size+2))] 140)
 rw[h]at d
 refine⟨w.1.size+3,w.1.size+1,w.1.size+2,rfl,by omega,by omega,by omega,by omega,d,⟨#[],0,(Below.heap_alloc _ _ _ (by omega)).trans f,⟨rfl,by simp,by simp,by simp,by simp[zx],by simp⟩⟩,⟨#[],0,(Below.heap_alloc _ _ _ (by omega)).trans g,⟨rfl,by simp,by simp,by simp,by simp[zv],by simp⟩⟩,b.alloc b.size _⟩
def YT:ByteArray:=⟨#[111,112,101,110,105,110,103,115]⟩
def zeg:ByteArray:=⟨#[43]⟩
def zdo:DS:=⟨[⟨YT,zeg,0⟩],-1,false⟩
def JB:DS:=⟨[⟨YT,zeg,1⟩],-1,false⟩
theorem zkV:eqS YT YT=true:=by simp[eqS]
theorem zhR:kE zdo.files YT=E 0:=by
 have:=(ZF (l:=zdo.files) (name:=YT) (i:=0) (f:=⟨YT,zeg,0⟩) rfl zkV (fun j g a _=>by omega)).1
 exact this
theorem zfB:kE JB.files YT=E 0:=by
 have:=(ZF (l:=JB.files) (name:=YT) (i:=0) (f:=⟨YT,zeg,1⟩) rfl zkV (fun j g a _=>by omega)).1
 exact this
theorem zjF:zQ QA=QA:=by simp[zQ,zH,QA]
theorem zhS:zQ zdo=zdo:=by simp[zQ,zH,zdo]
theorem op_a:qL QA YT zeg=zdo:=by
 rw[jm (by simp[zH,QA]) (by simp[kE,yb,QA]),zjF];rfl
theorem op_s:ka zdo YT=JB:=by
 rw[Ze (i:=0) (f:=⟨YT,zeg,0⟩) (by simp[zH,zdo]) zhR rfl,zhS];rfl
theorem zlE:DOk zdo 10:=by
 refine⟨by show(-1:Int)<= -1;omega,by show(-1:Int)<=9223372036854775807;omega,by show 1<=10;omega,fun f a=>?_⟩
 have:f=⟨YT,zeg,0⟩:=by simpa[zdo]using a
 subst this
 exact⟨Nat.zero_le _,by show 1<=10;omega⟩
theorem op_r:zbh JB YT=zeg:=by unfold zbh;rw[zfB];rfl
theorem zev(B p:Nat)(fs:Value)(w:Y)(v:B<=w.1.size)(h:zR 119 185 B w p QA fs):
  Calls prog 62 #[.pointer (E ⟨p,0,O⟩)] w fun e w'=>e=.returned (.tuple #[I J 1,.bool true])/\∃d,zR 119 185 B w' p JB d/\zk (foot p fs) w w'/\∀k,d.ownBlock=E k->fs.ownBlock=E k\/w.1.size<=k:=by
 have o:=ze (zcH B p QA fs YT zeg w 10 (by omega) ⟨by simp[QA],by simp[QA],by simp[QA],by simp[QA]⟩ (by simp[zeg,ByteArray.size]) v h)
 rw[op_a,show(!zH QA)=true from by simp[zH,QA]]at o
 unfold YT zeg at o
 clear h
 go_enter func62,ntmps62
 go_wp2_with fail
 refine(ud o).mono ?_
 rintro e x ⟨rfl,a,f,l,j⟩
 have g:=zlE
 have t:=ze (zis B p zdo a YT x 10 (by omega) g f)
 rw[op_s,show(!zH zdo)=true from by simp[zH,zdo]]at t
 unfold YT at t
 have r:=ze l
 have c:=ze j
 clear f l j g
 go_wp2_with fail
 refine(ud t).mono ?_
 rintro e y ⟨rfl,b,m⟩
 have HR:=ze (zif B p JB a YT y 10 (by omega) (by simp[JB]) b)
 rw[op_r]at HR
 unfold YT zeg at HR
 have q:=ze b
 have s:=ze m
 clear b m
 go_wp2_with fail
 refine(ud HR).mono ?_
 rintro e A ⟨rfl,n⟩
 rw[n]
 clear n
 go_wp2_with fail
 refine bodyPost_ret (results_tmp2 rfl _ _ _) rfl ?_
 refine⟨rfl,a,ud q,(ud r).trans (ud s) (fun i z u=>?_),ud c⟩
 rcases u with rfl|u
 ·exact .inl rfl
 ·rcases ud c _ u with h|h
  ·exact .inr h
  ·omega
theorem zfW(c:Cf)(g:xF c.s c.le c.la c.wi c.ke c.qu c.n c.F c.W c.K=false)(a:Option Addr)(cap p:Nat)(w:Y)(f:TS w a c.n c.F c.W c.K):
  Calls prog 26 #[.agg #[I J c.s,I J c.le,I J c.la,I J c.wi,I J c.ke,I J c.qu,.slice a c.n cap],.pointer (E ⟨p,0,O⟩)] w fun e w'=>e=.returned (.tuple #[.pointer O,I J 1])/\Below w.1.size w w':=by
 have b:∀o,Below w.1.size w (w.alloc o):=fun o=>(Below.refl _ _).alloc (Q _) _
 have HR:=fun o=>ze (Xh c.s c.le c.la c.wi c.ke c.qu a c.n cap c.F c.W c.K (w.alloc o) (f.below (b o)))
 rw[g,show ZZ false=1 from rfl]at HR
 go_enter func26,ntmps26
 go_wp2_with fail
 refine(ud (HR _)).mono ?_
 rintro e h ⟨rfl,d⟩
 go_wp2_with fail
 refine bodyPost_ret (results_tmp2 rfl _ _ _) rfl ?_
 exact⟨rfl,(b _).trans (d.mono (b _).size)⟩
theorem zdR{w:Y}{base size n:Nat}{e:TypeId}{v:Value}{xs:List Value}(h:w.ownsRow base e size v n xs):w.ownsRow 0 e size v n xs:=yE h (Nat.zero_le _)
def zhT(c:Cf)(B p:Nat)(fs:Value)(w:Y)(e:Ending)(w':Y):Prop:=
 ∃(i:Ids) (a:Value),e=.returned (.tuple #[.pointer (E ⟨i.x,0,O⟩),I J 0])/\zy w' i c 1 ⟨0,[],[],0,[],[]⟩/\zR 119 185 B w' p JB a/\zk (foot p fs) w w'/\(∀k,a.ownBlock=E k->fs.ownBlock=E k\/w.1.size<=k)/\(∀k,zU i k->w.1.size<=k/\¬foot p a k)
theorem zfV(c:Cf)(hc:c.ok)(hr:xF c.s c.le c.la c.wi c.ke c.qu c.n c.F c.W c.K=true)(a:Option Addr)(cap B p:Nat)(fs:Value)(w:Y)(hB:B<=w.1.size)(hd:zR 119 185 B w p QA fs)(P:∀w',zk (foot p fs) w w'->TS w' a c.n c.F c.W c.K):
  Calls prog 26 #[.agg #[I J c.s,I J c.le,I J c.la,I J c.wi,I J c.ke,I J c.qu,.slice a c.n cap],.pointer (E ⟨p,0,O⟩)] w (zhT c B p fs w):=by
 have L:Below w.1.size w (w.alloc (.cells #[I J c.s,I J c.le,I J c.la,I J c.wi,I J c.ke,I J c.qu,.slice a c.n cap] 27)):=(Below.refl _ _).alloc (Q _) _
 have aj:=ze (zo w (.cells #[I J c.s,I J c.le,I J c.la,I J c.wi,I J c.ke,I J c.qu,.slice a c.n cap] 27))
 have HR:=ze (Xh c.s c.le c.la c.wi c.ke c.qu a c.n cap c.F c.W c.K _ (P _ (zk.of_below L)))
 rw[hr,show ZZ true=0 from rfl]at HR
 have T:=ze L
 have HD:=ze hd
 have al:=ze P
 have aD:=hd.lt
 clear hd P L
 go_enter func26,ntmps26
 go_wp2_with fail
 refine(ud HR).mono ?_
 rintro e w1 ⟨rfl,M⟩
 have o:=(ud T).trans (M.mono (ud T).size)
 have a3:=ze ((M.block w.1.size (by rw[zF];omega)).trans (ud aj))
 have a0:=ze (zev B p fs w1 (Nat.le_trans hB o.size) ((ud HD).later o))
 have a6:=ze o
 clear M o HR
 go_wp2_with fail
 refine(ud a0).mono ?_
 rintro e w2 ⟨rfl,am,a9,v,aa⟩
 have aF:=(ud a6).size
 have an:¬foot p fs w.1.size:=by
  rintro(h|h)
  ·omega
  ·have:=vw (ud HD).row _ h;omega
 have ab:=v.heap (ud a3) an
 have u:zk (foot p fs) w w2:=(zk.of_below (ud a6)).trans v (fun _ _ h=>h)
 obtain⟨z0,z1,z2,z3,z4,z5,z6,-⟩:=zc ab
 have a4:=ze (zhL c hc a cap w2 (ud al _ u))
 have aG:=v.size
 have a2:=ze u
 have a1:=ze a9
 have ai:=ze aa
 clear a9 v aa u ab a3 a0
 go_wp2_with fail
 refine(ud a4).mono ?_
 rintro e d ⟨g,b,rfl,x,a7⟩
 have ak:=ze x
 have Z:=ze a7
 clear x a7 z0 z1 z2 z3 z4 z5 z6 a4
 go_wp2_with fail
 have a8:=(ud Z).alloc (ud Z).size (.cells #[I J c.s,I J c.le,I J c.la,I J c.wi,I J c.ke,I J c.qu,.slice (E ⟨g,0,O⟩) c.n b] 80)
 have ac:=zo d (.cells #[I J c.s,I J c.le,I J c.la,I J c.wi,I J c.ke,I J c.qu,.slice (E ⟨g,0,O⟩) c.n b] 80)
 have ad:=zF d (.cells #[I J c.s,I J c.le,I J c.la,I J c.wi,I J c.ke,I J c.qu,.slice (E ⟨g,0,O⟩) c.n b] 80)
 have a5:=ze ((ud ak).alloc (.cells #[I J c.s,I J c.le,I J c.la,I J c.wi,I J c.ke,I J c.qu,.slice (E ⟨g,0,O⟩) c.n b] 80))
 generalize(d.alloc (.cells #[I J c.s,I J c.le,I J c.la,I J c.wi,I J c.ke,I J c.qu,.slice (E ⟨g,0,O⟩) c.n b] 80))=X at*
 obtain⟨x0,x1,x2,x3,x4,x5,x6,-⟩:=zc ac
 have m:d.1.size<X.1.size:=by omega
 have HS:=fun W=>ze (zij c (E ⟨g,0,O⟩) b W)
 have HJ:=fun W=>ze (zhi c (E ⟨g,0,O⟩) b 1 W)
 have H:=ze a8
 have av:=ze ad
 clear a8 ac ad
 go_region_held3 (fun w'=>w'.cell? ⟨d.1.size,0,O⟩=E (I J c.s)/\w'.cell? ⟨d.1.size,1,O⟩=E (I J c.le)/\w'.cell? ⟨d.1.size,2,O⟩=E (I J c.la)/\w'.cell? ⟨d.1.size,3,O⟩=E (I J c.wi)/\w'.cell? ⟨d.1.size,4,O⟩=E (I J c.ke)/\w'.cell? ⟨d.1.size,5,O⟩=E (I J c.qu)/\w'.cell? ⟨d.1.size,6,O⟩=E (.slice (E ⟨g,0,O⟩) c.n b)) (go_keep) (first
  |(go_at_call 64;(with_reducible refine(ud (HS _)).mono ?_);rintro e V ⟨R,q,r,rfl,A,b2,b3,b4,v1,v2,v3,v4⟩;have j:Below X.1.size X V:=⟨v4.os,v4.tape,v4.output,v4.size,v4.block⟩;have af:Hid (X.1.size<=R/\X.1.size<=q/\X.1.size<=r):=⟨A,b2,b3⟩;have B4:=ze b4;have V1:=ze v1;have V2:=ze v2;have V3:=ze v3;clear v1 v2 v3 v4 A b2 b3 b4;have y0:V.cell? ⟨d.1.size,0,O⟩=E (I J c.s):=(j.cell (p:=⟨d.1.size,0,O⟩) m).trans x0;have y1:V.cell? ⟨d.1.size,1,O⟩=E (I J c.le):=(j.cell (p:=⟨d.1.size,1,O⟩) m).trans x1;have y2:V.cell? ⟨d.1.size,2,O⟩=E (I J c.la):=(j.cell (p:=⟨d.1.size,2,O⟩) m).trans x2;have y3:V.cell? ⟨d.1.size,3,O⟩=E (I J c.wi):=(j.cell (p:=⟨d.1.size,3,O⟩) m).trans x3;have y4:V.cell? ⟨d.1.size,4,O⟩=E (I J c.ke):=(j.cell (p:=⟨d.1.size,4,O⟩) m).trans x4;have y5:V.cell? ⟨d.1.size,5,O⟩=E (I J c.qu):=(j.cell (p:=⟨d.1.size,5,O⟩) m).trans x5;have y6:V.cell? ⟨d.1.size,6,O⟩=E (.slice (E ⟨g,0,O⟩) c.n b):=(j.cell (p:=⟨d.1.size,6,O⟩) m).trans x6;have l:d.1.size<V.1.size:=Nat.lt_of_lt_of_le m j.size;have ah:=ze j;clear j HS)
  |(go_at_call 65;(with_reducible refine(ud (HJ _)).mono ?_);rintro e U ⟨A,z,y,rfl,d1,d2,d3,u1,S⟩;have i:Below V.1.size V U:=⟨S.os,S.tape,S.output,S.size,S.block⟩;have ae:Hid (V.1.size<=A/\V.1.size<=z/\V.1.size<=y):=⟨d1,d2,d3⟩;have U1:=ze u1;clear u1 S d1 d2 d3;have z0:U.cell? ⟨d.1.size,0,O⟩=E (I J c.s):=(i.cell (p:=⟨d.1.size,0,O⟩) l).trans y0;have z1:U.cell? ⟨d.1.size,1,O⟩=E (I J c.le):=(i.cell (p:=⟨d.1.size,1,O⟩) l).trans y1;have z2:U.cell? ⟨d.1.size,2,O⟩=E (I J c.la):=(i.cell (p:=⟨d.1.size,2,O⟩) l).trans y2;have z3:U.cell? ⟨d.1.size,3,O⟩=E (I J c.wi):=(i.cell (p:=⟨d.1.size,3,O⟩) l).trans y3;have z4:U.cell? ⟨d.1.size,4,O⟩=E (I J c.ke):=(i.cell (p:=⟨d.1.size,4,O⟩) l).trans y4;have z5:U.cell? ⟨d.1.size,5,O⟩=E (I J c.qu):=(i.cell (p:=⟨d.1.size,5,O⟩) l).trans y5;have z6:U.cell? ⟨d.1.size,6,O⟩=E (.slice (E ⟨g,0,O⟩) c.n b):=(i.cell (p:=⟨d.1.size,6,O⟩) l).trans y6;have aE:d.1.size<U.1.size:=Nat.lt_of_lt_of_le l i.size;have ag:=ze i;clear i HJ))
 go_wp2_with fail
 refine bodyPost_ret (results_tmp2 rfl _ _ _) rfl ?_
 have j:=ud ah
 have i:=ud ag
 have D:=(ud H).trans (j.mono (ud H).size)
 have C:=D.trans (i.mono D.size)
 have G:=C.alloc C.size (.cells #[I J c.s,I J c.le,I J c.la,I J c.wi,I J c.ke,I J c.qu,.slice (E ⟨g,0,O⟩) c.n b,I J 1,I J 0,.pointer (E ⟨R,0,O⟩),.pointer (E ⟨A,0,O⟩)] 84)
 have t:Below U.1.size U (U.alloc (.cells #[I J c.s,I J c.le,I J c.la,I J c.wi,I J c.ke,I J c.qu,.slice (E ⟨g,0,O⟩) c.n b,I J 1,I J 0,.pointer (E ⟨R,0,O⟩),.pointer (E ⟨A,0,O⟩)] 84)):=(Below.refl _ _).alloc (Q _) _
 have ay:=j.size
 have ax:=i.size
 have aw:=(ud H).size
 obtain⟨s0,s9,s8⟩:=ud af
 obtain⟨j0,j9,j8⟩:=ud ae
 have ar:=zd (ud V1)
 have aC:q<V.1.size:=by obtain⟨es,cl,hb,_⟩:=ud V2;exact zd hb
 have aA:=(ud V3).lt
 have az:=(ud U1).foot_lt
 obtain⟨g2,au,aq,ao,aB⟩:=(ud a5).form (by have:=hc.n1;omega)
 have ap:g2=g:=by injection aq with h1 _ _;injection h1 with h1;injection h1 with h1;exact h1.symm
 subst ap
 refine⟨⟨U.1.size,R,q,r,A,z,y,.slice (E ⟨g2,0,O⟩) c.n b⟩,am,rfl,⟨zo _ _,⟨(t.block _ (by show R<_;omega)).trans ((i.block _ ar).trans (ud V1)),?_,((ud V2).later i).later t,((ud V3).later i).later t,ud B4⟩,(ud U1).later t,by show q≠z;omega,by show q≠y;omega,by show r≠z;omega,by show r≠y;omega⟩,(ud a1).later G,(ud a2).trans (zk.of_below (f:=foot p fs) G) (fun _ _ h=>h),fun k N=>?_,fun k N=>?_⟩
 ·exact xv (xv (xv (zdR (ud a5)) j) i) t
 ·rcases ud ai k N with h|h
  ·exact .inl h
  ·right;omega
 ·have v:w2.1.size<=k:=by
   rcases N with e|N|N
   ·have:k=U.1.size:=e
    omega
   ·rcases N with e|e|e|e
    ·have:k=R:=e
     omega
    ·have e':(Value.slice (E ⟨g2,0,O⟩) c.n b).ownBlock=E k:=e
     simp[Value.ownBlock]at e';subst e';exact ao
    ·have:k=q:=e
     omega
    ·have:k=r:=e
     omega
   ·rcases N with e|e|e
    ·have:k=A:=e
     omega
    ·have:k=z:=e
     omega
    ·have:k=y:=e
     omega
  refine⟨by omega,fun hf=>?_⟩
  rcases hf with rfl|hf
  ·omega
  ·have:=vw (ud a1).row k hf;omega
end Go.Proofs.YtpbimdkclnekeaaGreat
