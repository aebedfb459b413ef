import Derived.Stop.LaidErr
import Derived.MakeChecks
import Derived.Lay
import Derived.Test.YtndhpgciopcncaaGreatDoorXJbs0
open Option renaming some → E
open Nat renaming le_refl → Q
open Go renaming World → Y
open Go.RowKit.Below renaming refl → Z
open Nat renaming lt_of_lt_of_le → G
open Go.RowKit renaming Below → P
set_option linter.unusedVariables false
set_option maxRecDepth 100000
set_option maxHeartbeats 8000000
open Go.Proofs.Tryz
namespace Go.Proofs.YtndhpgciopcncaaGreatDoor
open Go.RowKit Go.Maps Go.Shelf
variable {c:Cf} {S:DS} {i:Ids} {b base g p size:Nat} {fs:Value} {w:Y}
abbrev zmS:List (String×DataW Unit):=Rows.boundedRow.laid
theorem znO:prog.globalNamed "internal/strconv.uint64pow10" =E 3:=by kernel_rfl
theorem zpt:(prog.globals[3]?).map (·.type)=E 387:=by kernel_rfl
theorem zdT{W:Y}(h:laidMetH prog zmS W):Yz W:=by
 rw[MakeChecks.laidMetH_plain _ _ _ (by kernel_rfl)]at h;have a:laidMet prog (("internal/strconv.uint64pow10",Lib.tabData .u64 Lib.pow10Tab)::zmS.drop 3) W:=h.tail.tail;exact Lib.tabIs_of_head znO zpt underlying387 underlying334 (by kernel_rfl) (by kernel_rfl) a
theorem znN(os:Os)(args:Array Value):laidMetH prog zmS ((World.laidAll prog os zmS).forCall (fun _ _=>0) ⟨#[],args,[]⟩).memory:=by
 rw[MakeChecks.laidMetH_plain _ _ _ (by kernel_rfl)];exact laidMet_laidAll _ (by kernel_rfl) (by kernel_rfl)
theorem zgr{e:TypeId}{cs:Array Value}(h:w.1[g]?=E (.cells cs e (0,0)))(b:cs.size=0)(a:base<=g):w.ownsRow base e size (.slice (E (U g 0)) 0 0) 0 []:=
 ⟨by simp,.inr ⟨g,0,cs,rfl,a,h,⟨Q _,by simp[maxLen],by simp[b],by simp⟩⟩⟩
theorem zhK(c:Cf)(C:c.ok)(a:Option Addr)(cap:Nat)(w:Y)(h:TS w a c.n c.F c.W c.K):
  Calls prog 129 #[.slice a c.n cap] w fun e w'=>∃g d,e=.returned (.slice (E (U g 0)) c.n d)/\w'.ownsRow w.1.size 80 3 (.slice (E (U g 0)) c.n d) c.n (Qp c.n c.F c.W c.K)/\B_ w w':=by
 have N:=C.n1;have O:=C.n4;have A:=zkw h;obtain⟨ad,s,q⟩:=A (by rw[xv];omega);subst s;have f:∀o,B_ w (w.alloc o):=fun o=>(Z _ _).alloc (Q _) _;have hnews:∀o,∀j u,(Qp c.n c.F c.W c.K)[j]?=E u->(w.alloc o).cell? (ad.add j)=E u:=fun o j u R=>by
  have B:=q j u R;obtain⟨b,off,L,t,_⟩:=h (by omega);cases L;have m:((U b off):Addr).add j=(U b (off+j)):=by unfold Addr.add;split<;>simp_all
  rw[m]at B ⊢;exact((f o).cell (p:=(U b (off+j))) t).trans B
 have D:(binOp .eql 25 (.slice (E ad) c.n cap) (.slice none 0 0)).run prog w=.ok (.bool false) w:=by kernel_rfl
 have I:=ze hnews;have v:0<c.n:=by omega
 have x:0+c.n<=maxLen:=by simp only[maxLen];omega
 have y:(0+c.n)*24<=140737488355328:=by omega
 have z:∀o,w.1.size<=(w.alloc o).1.size:=fun o=>by rw[zE];omega
 clear h A q hnews;go_in;go_wp2_with(first|(at_builtin;refine zO rfl _ _ 25 rfl w.1.size 80 _ 3 24 underlying25 Tryz.infoTierR rfl (by decide) (.slice (E (U w.1.size 0)) 0 0) 0 [] rfl (zgr (zo _ _) rfl (Q _)) ad c.n cap (Qp c.n c.F c.W c.K) rfl (xv _ _ _ _) (ud I _) (zaC _ _ _ _) v x y (z _) ?_;intro g l w2 r H i J M)|go_in);go_ret;refine⟨g,l,by simp,by simpa using r,?_⟩;exact(f _).grown i (f _).size (fun k e=>by cases e;exact Q _)
theorem set7{a b c d e f i:Value}{t:TypeId}{fr:Nat×Nat}(h:w.1[g]?=E (.cells #[a,b,c,d,e,f,i] t fr))(j k l m n o p:Value):(((((((w.setCell (U g 0) j).setCell (U g 1) k).setCell (U g 2) l).setCell (U g 3) m).setCell (U g 4) n).setCell (U g 5) o).setCell (U g 6) p).1[g]?=E (.cells #[j,k,l,m,n,o,p] t fr):=by
 have q:(w.setCell (U g 0) j).1[g]?=E (.cells #[j,b,c,d,e,f,i] t fr):=xq (i:=0) h j;have r:((w.setCell (U g 0) j).setCell (U g 1) k).1[g]?=E (.cells #[j,k,c,d,e,f,i] t fr):=xq (i:=1) q k;have s:(((w.setCell (U g 0) j).setCell (U g 1) k).setCell (U g 2) l).1[g]?=E (.cells #[j,k,l,d,e,f,i] t fr):=xq (i:=2) r l;have u:((((w.setCell (U g 0) j).setCell (U g 1) k).setCell (U g 2) l).setCell (U g 3) m).1[g]?=E (.cells #[j,k,l,m,e,f,i] t fr):=xq (i:=3) s m;have v:(((((w.setCell (U g 0) j).setCell (U g 1) k).setCell (U g 2) l).setCell (U g 3) m).setCell (U g 4) n).1[g]?=E (.cells #[j,k,l,m,n,f,i] t fr):=xq (i:=4) u n;have x:((((((w.setCell (U g 0) j).setCell (U g 1) k).setCell (U g 2) l).setCell (U g 3) m).setCell (U g 4) n).setCell (U g 5) o).1[g]?=E (.cells #[j,k,l,m,n,o,i] t fr):=xq (i:=5) v o;have y:(((((((w.setCell (U g 0) j).setCell (U g 1) k).setCell (U g 2) l).setCell (U g 3) m).setCell (U g 4) n).setCell (U g 5) o).setCell (U g 6) p).1[g]?=E (.cells #[j,k,l,m,n,o,p] t fr):=xq (i:=6) x p;exact y
theorem zlD(c:Cf)(J:c.ok)(a:Option Addr)(cap:Nat)(w:Y)(h:TS w a c.n c.F c.W c.K):
  Calls prog 67 #[(cZz c a cap)] w fun e w'=>∃g l,e=.returned ((cZz c (E (U g 0)) l))/\w'.ownsRow w.1.size 80 3 (.slice (E (U g 0)) c.n l) c.n (Qp c.n c.F c.W c.K)/\B_ w w':=by
 obtain⟨C,L,p,M⟩:=box2 w (.cells (aZz c a cap) 27) (.cells #[I 0,I 0,I 0,I 0,I 0,I 0,.slice none 0 0] 89);have O:=ze (zhK c J a cap _ (h.below p));obtain⟨-,-,-,-,-,-,x6,-⟩:=zc C;clear h;go_in;have R:=ze C;have S:=ze L;have o:=ze p;have D:=ze M;clear C L p M;go_wp2_with fail;generalize((w.alloc (.cells (aZz c a cap) 27)).alloc (.cells #[I 0,I 0,I 0,I 0,I 0,I 0,.slice none 0 0] 89))=X at*;refine O.mono ?_;rintro e w1 ⟨g,b,rfl,m,d⟩;have t:w.1.size<X.1.size:=by rw[ud D];omega
 have B:w.1.size+1<X.1.size:=by rw[ud D];omega
 have u:=(d.block w.1.size t).trans R;have x:=(d.block (w.1.size+1) B).trans S;obtain⟨z0,z1,z2,z3,z4,z5,z6,-⟩:=zc u;have zf:=fun j=>zI u j;obtain⟨r0,r1,r2,r3,r4,r5,r6,-⟩:=zc x;have rf:=fun j=>zI x j;have E0:=ze u;have N:=ze x;have f:=ze m;have z:=ze d;clear u x m d;go_wp2_with fail;have A:=zW (w:=w1) (g:=w.1.size) (i:=6) (k:=w.1.size+1) (v:=.slice (E (U g 0)) c.n b) (by omega);have V:=set7 (A.trans N) (I c.s) (I c.le) (I c.la) (I c.wi) (I c.ke) (I c.qu) (.slice (E (U g 0)) c.n b);have r:B_ X w1:=ud z;have q:zj (fun k=>k=w.1.size\/k=w.1.size+1) w1 ((((((((w1.setCell (U w.1.size 6) (.slice (E (U g 0)) c.n b)).setCell (U (w.1.size+1) 0) (I c.s)).setCell (U (w.1.size+1) 1) (I c.le)).setCell (U (w.1.size+1) 2) (I c.la)).setCell (U (w.1.size+1) 3) (I c.wi)).setCell (U (w.1.size+1) 4) (I c.ke)).setCell (U (w.1.size+1) 5) (I c.qu)).setCell (U (w.1.size+1) 6) (.slice (E (U g 0)) c.n b)):=
  zk (zk (zk (zk (zk (zk (zk (zk (zj.refl _ _) (.inl rfl)) (.inr rfl)) (.inr rfl)) (.inr rfl)) (.inr rfl)) (.inr rfl)) (.inr rfl)) (.inr rfl)
 refine bodyPost_ret (v:=(cZz c (E (U g 0)) b)) (results_cell_row results67 _ _ (w.1.size+1) _ _ _ _ rfl V underlying89 rfl (by kernel_rfl)) rfl ?_;refine⟨g,b,rfl,?_,(ud o).trans ((r.mono (ud o).size).trans (q.below (Nat.le_trans (ud o).size r.size) (fun k y=>by rcases y with rfl|rfl<;>omega)))⟩;refine yw (zi f q (fun k y=>?_)) (Nat.le_of_lt t);have:X.1.size<=k:=by
  have hg:k=g:=by simp[Value.ownBlock]at y;exact y.symm
  obtain⟨g2,H,hv,T,_⟩:=f.form (by have:=J.n1;omega);cases hv;omega
 omega
theorem zml(c:Cf)(a:Option Addr)(cap:Nat)(w:Y):
  Calls prog 68 #[(cZz c a cap)] w fun e w'=>∃s lb gb,e=.returned (O s)/\w.1.size<=s/\w.1.size<=lb/\w.1.size<=gb/\gb≠lb/\w'.1[s]?=E (.cells #[I c.s,I c.le,I c.la,I c.wi,I c.ke,I c.qu,.slice a c.n cap,.map (E lb),.map (E gb)] 155 (0,0))/\vm w' lb []/\xn jE w' gb []/\B_ w w':=by
 have j:∀W:Y,(Instr.makeMap 152 none).run prog W=.ok (.map (E W.1.size)) (W.alloc (.map #[] 0)):=fun W=>by kernel_rfl
 have k:∀W:Y,(Instr.makeMap 153 none).run prog W=.ok (.map (E W.1.size)) (W.alloc (.map #[] 0)):=fun W=>by kernel_rfl
 go_in;go_wp2_with fail;go_ret;obtain⟨i,f,g,b,h⟩:=K5 w (.cells (aZz c a cap) 89) (.map #[] 0) (.map #[] 0);generalize(((w.alloc (.cells (aZz c a cap) 89)).alloc (.map #[] 0)).alloc (.map #[] 0))=X at*;have d:=zo X (.cells #[I c.s,I c.le,I c.la,I c.wi,I c.ke,I c.qu,.slice a c.n cap,.map (E (w.1.size+1)),.map (E (w.1.size+2))] 155);rw[h]at d;refine⟨w.1.size+3,w.1.size+1,w.1.size+2,rfl,by omega,by omega,by omega,by omega,d,⟨#[],0,(Below.heap_alloc _ _ _ (by omega)).trans f,⟨rfl,by simp,by simp,by simp,by simp[zw],by simp⟩⟩,⟨#[],0,(Below.heap_alloc _ _ _ (by omega)).trans g,⟨rfl,by simp,by simp,by simp,by simp[zx],by simp⟩⟩,b.alloc b.size _⟩
theorem zfM(d:Nat)(w:Y):Calls prog 70 #[(O d)] w fun e w'=>∃j,e=.returned (O j)/\w.1.size<=j/\w'.1[j]?=E (.cells #[(O d),I 0] 216 (0,0))/\B_ w w':=by
 go_in;go_wp2_with fail;go_ret;exact⟨_,rfl,Q _,zo _ _,(Z _ _).alloc (Q _) _⟩
theorem zjm(c:Cf)(g:xR c.s c.le c.la c.wi c.ke c.qu c.n c.F c.W c.K=false)(a:Option Addr)(cap p:Nat)(w:Y)(f:TS w a c.n c.F c.W c.K):
  Calls prog 29 #[(cZz c a cap),(O p)] w (Rz w (.tuple #[.pointer none,I 1])):=by
 have b:∀o,B_ w (w.alloc o):=fun o=>(Z _ _).alloc (Q _) _;have HR:=fun o=>ze (Qi c.s c.le c.la c.wi c.ke c.qu a c.n cap c.F c.W c.K (w.alloc o) (f.below (b o)));rw[g,show Q6 false=1 from rfl]at HR;go_in;go_wp2_with fail;refine(HR _).mono ?_;rintro e w1 ⟨rfl,d⟩;go_wp2_with fail;refine bodyPost_ret (results_tmp2 rfl _ _ _) rfl ?_;exact⟨rfl,(b _).trans (d.mono (b _).size)⟩
theorem Jt{n:Nat}{e:TypeId}{v:Value}{xs:List Value}(h:w.ownsRow base e size v n xs):w.ownsRow 0 e size v n xs:=yw h (Nat.zero_le _)
theorem zlG{U9:Y}{ep:Int}{m d a l h g j:Nat}{tv:Value}(u:xK U9 m c tv d a [] [])(r:zN U9 l c tv ep 0 h g [] [])(n:JAt U9 j p 0 S fs)(q:Yz U9)(a1:d≠h)(a2:d≠g)(a3:a≠h)(a4:a≠g)(hn:∀k,(ZE m tv d a k\/Ze l h g k\/Zg j p fs k)->k≠Qt):
  xe (U9.alloc (.cells #[I c.s,I c.le,I c.la,I c.wi,I c.ke,I c.qu,tv,I ep,I 0,(O m),(O l),(O j),.bool false] 94)) ⟨U9.1.size,m,d,a,l,h,g,tv,j,p⟩ c ep ms0 ⟨0,S,false⟩:=by
 have b:∀o,B_ U9 (U9.alloc o):=fun o=>(Z _ _).alloc (Q _) _;have i:=fun o=>(⟨(((b o).block _ (zd n.head)).trans n.head),n.disk.later (b o)⟩:JAt (U9.alloc o) j p 0 S fs);refine⟨zo _ _,u.kept (zj.of_below (f:=fun _=>False) (b _)) (fun _ _ e=>e),r.later (b _),⟨fs,i _⟩,Yt q (b _),a1,a2,a3,a4,fun k t=>?_⟩;rcases t with(e|e|e|e|e)|e
 ·have w:=q.lt;have v:k=U9.1.size:=e;omega
 ·exact hn k (.inl e)
 ·exact hn k (.inr (.inl e))
 ·exact hn k (.inr (.inr (.inl e)))
 ·exact hn k (.inr (.inr (.inr (.inl e))))
 ·exact hn k (.inr (.inr (.inr (.inr ((i _).fsB.symm.trans e)))))
structure Kb(i:Ids)(b:Nat)(w w':Y):Prop where
 kept:zj (fun k=>xm w i k\/k=b) w w'
 fs:∀k,fsB w' i.d=E k->fsB w i.d=E k\/w.1.size<=k
theorem Kx.kb{w':Y}(h:Kx i w w')(b:Nat):Kb i b w w':=⟨h.kept.mono (fun _ _ e=> .inl e),h.fs⟩
theorem Kx.behind{w1 w2:Y}(h:Kx i w w1)(k:Kb i b w1 w2)(d:w.1.size<=b):Kx i w w2:=
 ⟨h.kept.trans k.kept (fun j c e=>by
  rcases e with(e|e)|e
  ·exact .inl e
  ·rcases h.fs j e with a|a
   ·exact .inr a
   ·omega
  ·omega),fun j c=>by
  rcases k.fs j c with a|a
  ·exact h.fs j a
  ·exact .inr (Nat.le_trans h.size a)⟩
def zef(c:Cf)(T:ByteArray)(m':MS)(A:Ids->Y->Prop):Prop:=∀(W:Y) (i:Ids) (ep:Int) (q:JM) (b:Nat),xe W i c ep ms0 q->W.1[b]?=E (.cells #[.string T] 9 (0,0))->¬xm W i b->A i W->Calls prog 71 #[(O i.x),.func (.func 202) #[] #[(O b)]] W fun e w'=>e=.returned (.tuple #[])/\xe w' i c ep m' q/\Kb i b W w'
theorem znc{N:Nat}(h:DOk S N):DOk (Vq S) (N+5):=by
 have b:zaV.size=1:=rfl;have a:=jA h kj zaV;rw[b]at a;unfold Vq;split
 ·exact vo a (by omega)
 ·exact vo (YI a _) (by omega)
def zpV(c:Cf)(p:Nat)(S:DS)(fs:Value)(m':MS)(w:Y)(e:Ending)(w':Y):Prop:=
 ∃(i:Ids) (a:List SX) (TL':List (Jk×Tsk)),i.d=p/\e=.returned (.tuple #[(O i.x),I 0])/\a.Perm (XU m'.L m'.Gl)/\xe w' i c (zhD S) {m' with TL:=TL'} ⟨zeR (Vq S) (qD m'.now a) 0,zgP (Vq S) (qD m'.now a),false⟩/\qN c m' TL'/\zj (foot p fs) w w'/\(∀k,xm w' i k->foot p fs k\/w.1.size<=k)
theorem zpG(c:Cf)(hc:c.ok)(hr:xR c.s c.le c.la c.wi c.ke c.qu c.n c.F c.W c.K=true)(a:Option Addr)(cap p:Nat)(S:DS)(fs:Value)(w:Y)(hd:zhi w p S fs)(N:Nat)(hN:N<=900000000000)(bn:DOk S N)(bd:zcP S=true)(aB:∀w',zj (foot p fs) w w'->TS w' a c.n c.F c.W c.K)(ap:Yz w)(br:∀k,foot p fs k->k≠Qt)(m':MS)(A:Ids->Y->Prop)(aD:∀i W,zj (foot p fs) w W->(∀k,xm W i k->foot p fs k\/w.1.size<=k)->A i W)(aT:zef c ((vk (Vq S) kh).extract 0 (zmJ (vk (Vq S) kh))) m' A)(bm:0<=m'.now/\m'.now<=100000)(an:∀x∈XU m'.L m'.Gl,okX x)(bO:m'.L.length<=2000)(bX:m'.Gl.length<=49000000)(hL:∀p∈m'.L,inR c p.1)(bQ:m'.TL.length<=50000)(bo:∀ys,ys.Perm (XU m'.L m'.Gl)->VE (Vq S) (qD m'.now ys)=true):
  Calls prog 29 #[(cZz c a cap),(O p)] w (zpV c p S fs m' w):=by
 have am:=znc bn;have az:B_ w (w.alloc (.cells (aZz c a cap) 27)):=(Z _ _).alloc (Q _) _;have bv:=ze (zo w (.cells (aZz c a cap) 27));have HR:=ze (Qi c.s c.le c.la c.wi c.ke c.qu a c.n cap c.F c.W c.K _ (aB _ (zj.of_below az)));rw[hr,show Q6 true=0 from rfl]at HR;have aE:=ze az;have HD:=ze hd;have bB:=ze aB;have ai:=ze ap;have aW:=ze br;have ah:=ze aT;have af:=ze aD;have aS:=ze an;have bw:=ze hL;have aV:=ze bo;have ag:=ze am;have bY:=hd.lt;clear hd aB az ap br aT aD an hL bo am;go_in;go_wp2_with fail;refine HR.mono ?_;rintro e w1 ⟨rfl,aA⟩;have a5:=aE.trans (aA.mono aE.size);have aP:=ze ((aA.block w.1.size (by rw[zE];omega)).trans bv);have ar:=ze (zhE (HD.later a5) N (by omega) bn);rw[bd]at ar;have aY:=ze a5;clear aA a5 HR;go_wp2_with fail;refine ar.mono ?_;rintro e w2 ⟨rfl,ax,be,ae,bf⟩;have c1:=aY.size;have bJ:¬foot p fs w.1.size:=by
  rintro(h|h)
  ·omega
  ·have:=Zz HD.row _ h;omega
 have al:=ae.heap aP bJ;have a7:zj (foot p fs) w w2:=(zj.of_below aY).trans ae (fun _ _ h=>h);obtain⟨z0,z1,z2,z3,z4,z5,z6,-⟩:=zc al;have aQ:=ze (zlD c hc a cap w2 (ud bB _ a7));have c2:=ae.size;have a0:=ze a7;have aK:=ze be;have aL:=ze bf;clear be ae bf a7 al aP ar;go_wp2_with fail;refine aQ.mono ?_;rintro e d ⟨g,b,rfl,a8,bb⟩;have aR:=ze a8;have aq:=ze bb;clear a8 bb z0 z1 z2 z3 z4 z5 z6 aQ;go_wp2_with fail;have bc:=aq.alloc aq.size (.cells (aZz c (E (U g 0)) b) 89);have bk:=zo d (.cells (aZz c (E (U g 0)) b) 89);have bs:=zE d (.cells (aZz c (E (U g 0)) b) 89);have au:=ze (aR.alloc (.cells (aZz c (E (U g 0)) b) 89));generalize(d.alloc (.cells (aZz c (E (U g 0)) b) 89))=X at*;obtain⟨x0,x1,x2,x3,x4,x5,x6,-⟩:=zc bk;have v:d.1.size<X.1.size:=by omega
 have HS:=fun W=>ze (zml c (E (U g 0)) b W);have HJ:=fun W=>ze (zkT c (E (U g 0)) b (zhD S) W);have aN:=fun W=>ze (zfM p W);have a9:=ze bc;have bC:=ze bs;clear bc bk bs;go_region_held3 (fun w'=>w'.cell? (U d.1.size 0)=E (I c.s)/\w'.cell? (U d.1.size 1)=E (I c.le)/\w'.cell? (U d.1.size 2)=E (I c.la)/\w'.cell? (U d.1.size 3)=E (I c.wi)/\w'.cell? (U d.1.size 4)=E (I c.ke)/\w'.cell? (U d.1.size 5)=E (I c.qu)/\w'.cell? (U d.1.size 6)=E (.slice (E (U g 0)) c.n b)) (go_keep) (first
  |(go_at_call 68;(with_reducible refine(ud (HS _)).mono ?_);rintro e V ⟨s1,q,r,rfl,C,b2,b3,b4,v1,v2,v3,v4⟩;have m:B_ X V:=⟨v4.os,v4.tape,v4.output,v4.size,v4.block⟩;have aG:Hid (X.1.size<=s1/\X.1.size<=q/\X.1.size<=r):=⟨C,b2,b3⟩;have B4:=ze b4;have V1:=ze v1;have V2:=ze v2;have V3:=ze v3;clear v1 v2 v3 v4 C b2 b3 b4;have y0:Cz V d.1.size 0 (I c.s):=(m.cell (p:=(U d.1.size 0)) v).trans x0;have y1:Cz V d.1.size 1 (I c.le):=(m.cell (p:=(U d.1.size 1)) v).trans x1;have y2:Cz V d.1.size 2 (I c.la):=(m.cell (p:=(U d.1.size 2)) v).trans x2;have y3:Cz V d.1.size 3 (I c.wi):=(m.cell (p:=(U d.1.size 3)) v).trans x3;have y4:Cz V d.1.size 4 (I c.ke):=(m.cell (p:=(U d.1.size 4)) v).trans x4;have y5:Cz V d.1.size 5 (I c.qu):=(m.cell (p:=(U d.1.size 5)) v).trans x5;have y6:Cz V d.1.size 6 (.slice (E (U g 0)) c.n b):=(m.cell (p:=(U d.1.size 6)) v).trans x6;have u:d.1.size<V.1.size:=G v m.size;have aJ:=ze m;clear m HS)
  |(go_at_call 69;(with_reducible refine(ud (HJ _)).mono ?_);rintro e U9 ⟨C,z,y,rfl,d1,d2,d3,u1,u4⟩;have l:B_ V U9:=⟨u4.os,u4.tape,u4.output,u4.size,u4.block⟩;have aF:Hid (V.1.size<=C/\V.1.size<=z/\V.1.size<=y):=⟨d1,d2,d3⟩;have U1:=ze u1;clear u1 u4 d1 d2 d3;have z0:Cz U9 d.1.size 0 (I c.s):=(l.cell (p:=(U d.1.size 0)) u).trans y0;have z1:Cz U9 d.1.size 1 (I c.le):=(l.cell (p:=(U d.1.size 1)) u).trans y1;have z2:Cz U9 d.1.size 2 (I c.la):=(l.cell (p:=(U d.1.size 2)) u).trans y2;have z3:Cz U9 d.1.size 3 (I c.wi):=(l.cell (p:=(U d.1.size 3)) u).trans y3;have z4:Cz U9 d.1.size 4 (I c.ke):=(l.cell (p:=(U d.1.size 4)) u).trans y4;have z5:Cz U9 d.1.size 5 (I c.qu):=(l.cell (p:=(U d.1.size 5)) u).trans y5;have z6:Cz U9 d.1.size 6 (.slice (E (U g 0)) c.n b):=(l.cell (p:=(U d.1.size 6)) u).trans y6;have t:d.1.size<U9.1.size:=G u l.size;have aI:=ze l;clear l HJ)
  |(go_at_call 70;(with_reducible refine(ud (aN _)).mono ?_);rintro e T ⟨J,rfl,d1,t1,t4⟩;have j:B_ U9 T:=⟨t4.os,t4.tape,t4.output,t4.size,t4.block⟩;have aM:Hid (U9.1.size<=J):=d1;have T1:=ze t1;clear t1 t4 d1;have t0:Cz T d.1.size 0 (I c.s):=(j.cell (p:=(U d.1.size 0)) t).trans z0;have t1:Cz T d.1.size 1 (I c.le):=(j.cell (p:=(U d.1.size 1)) t).trans z1;have t2:Cz T d.1.size 2 (I c.la):=(j.cell (p:=(U d.1.size 2)) t).trans z2;have t3:Cz T d.1.size 3 (I c.wi):=(j.cell (p:=(U d.1.size 3)) t).trans z3;have t4:Cz T d.1.size 4 (I c.ke):=(j.cell (p:=(U d.1.size 4)) t).trans z4;have t5:Cz T d.1.size 5 (I c.qu):=(j.cell (p:=(U d.1.size 5)) t).trans z5;have t6:Cz T d.1.size 6 (.slice (E (U g 0)) c.n b):=(j.cell (p:=(U d.1.size 6)) t).trans z6;have bP:d.1.size<T.1.size:=G t j.size;have aH:=ze j;clear j aN))
 go_wp2_with fail;have m:=ud aJ;have l:=ud aI;have j:=ud aH;have a4:=a9.trans (m.mono a9.size);have a3:=a4.trans (l.mono a4.size);have B:=a3.trans (j.mono a3.size);have a2:=l.trans (j.mono l.size);have bH:=m.size;have bG:=l.size;have bF:=j.size;have bD:=a9.size;obtain⟨s0,s9,s8⟩:=ud aG;obtain⟨j0,j9,j8⟩:=ud aF;have bT:=ud aM;have bp:=zd V1;have bj:q<V.1.size:=V2.lt;have bK:=V3.lt;have bI:=U1.foot_lt;obtain⟨H,bU,bh,bL,bN⟩:=au.form (by have:=hc.n1;omega);have bM:H=g:=by injection bh with h1 _ _;injection h1 with h1;injection h1 with h1;exact h1.symm
 subst bM;have ao:xK T s1 c (.slice (E (U H 0)) c.n b) q r [] []:=⟨((a2.block _ bp).trans V1),zY (zY (Jt au) m) a2,V2.later a2,V3.later a2,B4⟩;have a6:JAt T J p 0 (Vq S) ax:=⟨T1,aK.later B⟩;have bq:Yz T:=Yt (ai.kept a0 (fun e=>ud aW _ e rfl)) B;have bV:=ai.lt;have o:∀k,(ZE s1 (.slice (E (U H 0)) c.n b) q r k\/Ze C z y k\/Zg J p ax k)->foot p fs k\/w.1.size<=k:=fun k hk=>by
  rcases hk with(e|e|e|e)|(e|e|e)|e|e|e
  ·right;have:k=s1:=e;omega
  ·right;have e':(Value.slice (E (U H 0)) c.n b).ownBlock=E k:=e;simp[Value.ownBlock]at e';subst e';omega
  ·right;have:k=q:=e;omega
  ·right;have:k=r:=e;omega
  ·right;have:k=C:=e;omega
  ·right;have:k=z:=e;omega
  ·right;have:k=y:=e;omega
  ·right;have:k=J:=e;omega
  ·exact .inl (.inl e)
  ·rcases ud aL k e with h|h
   ·exact .inl (.inr h)
   ·right;omega
 have ad:=zlG ao (U1.later j) a6 bq (show q≠z by omega) (show q≠y by omega) (show r≠z by omega) (show r≠y by omega) (fun k hk=>by
  rcases o k hk with h|h
  ·exact ud aW k h
  ·omega)
 have ak:=B.alloc B.size (.cells #[I c.s,I c.le,I c.la,I c.wi,I c.ke,I c.qu,.slice (E (U H 0)) c.n b,I (zhD S),I 0,(O s1),(O C),(O J),.bool false] 94);have aj:B_ T (T.alloc (.cells #[I c.s,I c.le,I c.la,I c.wi,I c.ke,I c.qu,.slice (E (U H 0)) c.n b,I (zhD S),I 0,(O s1),(O C),(O J),.bool false] 94)):=(Z _ _).alloc (Q _) _;have bE:=zE T (.cells #[I c.s,I c.le,I c.la,I c.wi,I c.ke,I c.qu,.slice (E (U H 0)) c.n b,I (zhD S),I 0,(O s1),(O C),(O J),.bool false] 94);generalize T.alloc (.cells #[I c.s,I c.le,I c.la,I c.wi,I c.ke,I c.qu,.slice (E (U H 0)) c.n b,I (zhD S),I 0,(O s1),(O C),(O J),.bool false] 94)=M at*;obtain⟨bW,bi⟩:=ad.jrn;have aU:=ze (zdF bi.disk (N+5) (by omega) ag);have bg:∀k,xm M ⟨T.1.size,s1,q,r,C,z,y,.slice (E (U H 0)) c.n b,J,p⟩ k->foot p fs k\/w.1.size<=k:=fun k hk=>by
  rcases hk with(e|e|e|e|e)|e
  ·right;have:k=T.1.size:=e;omega
  ·exact o k (.inl e)
  ·exact o k (.inr (.inl e))
  ·exact o k (.inr (.inr (.inl e)))
  ·exact o k (.inr (.inr (.inr (.inl e))))
  ·have e2:fsB M p=ax.ownBlock:=by
    have hx:=(a6.disk.later aj).c0;unfold fsB;rw[hx];rfl
   exact o k (.inr (.inr (.inr (.inr (e2.symm.trans e)))))
 have aC:zj (foot p fs) w M:=a0.trans (zj.of_below (f:=foot p fs) ak) (fun _ _ h=>h);have aZ:=ze aC;have aa:=ze bg;have ab:=ze ad;have bZ:=ad.lt;have c3:w.1.size<=M.1.size:=aC.size;clear ad aC bg bi o ao a6 bq aj bE ak B a3 a4 a2 m l j bI bh bL bN bp bj bK s0 s9 s8 j0 j9 j8 bT bH bG bF bD v u t bP aJ aI aH a9 bC au aR aq aK aL a0 V1 V2 V3 U1 T1 aG aF aM B4 x0 x1 x2 x3 x4 x5 x6 y0 y1 y2 y3 y4 y5 y6 z0 z1 z2 z3 z4 z5 z6 t0 t1 t2 t3 t4 t5 t6;refine aU.mono ?_;rintro e R ⟨rfl,hR⟩;have D:B_ M R:=by rw[hR];exact(Z _ _).alloc (Q _) _
 have bl:R.1[M.1.size]?=E (.cells #[.string ((vk (Vq S) kh).extract 0 (zmJ (vk (Vq S) kh)))] 9 (0,0)):=by rw[hR];exact zo _ _
 have a1:=ze (ud ah R ⟨T.1.size,s1,q,r,C,z,y,.slice (E (U H 0)) c.n b,J,p⟩ (zhD S) ⟨0,Vq S,false⟩ M.1.size (ab.later D) bl (JR ab D) (ud af _ R (aZ.trans (zj.of_below (f:=foot p fs) D) (fun _ _ h=>h)) (fun k hk=>ud aa k (zbm ab D k hk))));dsimp only at a1;have aO:=ze (Kx.below (i:=⟨T.1.size,s1,q,r,C,z,y,.slice (E (U H 0)) c.n b,J,p⟩) D ab.dlt);clear hR D bl aU ah af;go_wp2_with fail;refine a1.mono ?_;rintro e R2 ⟨rfl,ay,b0⟩;have aw:=ze (Jc ay (by unfold xX;omega) aS (by omega) (by omega) (N+5) (by omega) ag);dsimp only at aw;have bt:=ze (aO.behind b0 (Q _));have bR:=ay.lt;dsimp only at bR;clear ay b0 aO a1;go_wp2_with fail;refine aw.mono ?_;rintro e R3 ⟨ys,hp,rfl,ac,b5⟩;rw[ud aV ys hp];have av:=ze (zap ac.own hc bw bO bm bQ);dsimp only at av;have bA:=ze hp;have bx:=ze ac;have bu:=ze (bt.trans b5);have bS:=ac.lt;dsimp only at bS;clear hp ac b5 aw;go_wp2_with fail;refine av.mono ?_;rintro e R4 ⟨rfl,TL',b8,b6,b9⟩;have ba:=bx.put b8 b6 (fun k e=> .inr (.inr (.inr (.inl e))));have aX:=ze ba;have bz:=ze b9;clear ba b8 b6 b9 av;go_wp2_with fail;refine bodyPost_ret (results_tmp2 rfl _ _ _) rfl ?_;have b7:=bu.trans aX.2;refine⟨⟨T.1.size,s1,q,r,C,z,y,.slice (E (U H 0)) c.n b,J,p⟩,ys,TL',rfl,rfl,bA,aX.1,bz,aZ.trans b7.kept (fun k hk e=>?_),fun k hk=>?_⟩
 ·rcases ud aa k e with h|h
  ·exact h
  ·omega
 ·rcases hk with e|e
  ·exact ud aa k (.inl e)
  ·rcases b7.fs k e with h|h
   ·exact ud aa k (.inr h)
   ·right;omega
attribute [local go_sem] Oper.semAt_some
theorem zfT(T:ByteArray)(g:T.size=0)(b:Nat)(w:Y)(d:w.cell? (U b 0)=E (.string T))(c:b<w.1.size)(Kp:Y->Y->Prop)(encs:ByteArray->Array Value)(m:Nat):
  Yy Fence.wide 6 prog 202 #[(O b)] encs Kp (fun xs=>xs=[]) (fun _=>False) 0 m w:=by
 intro l J k W a q o f h e;have n:=(a.cell (p:=(U b 0)) c).trans d;have i:=G c a.size;have j:decide ((0:Int)<(T.size:Int))=false:=by rw[g];rfl
 clear a d c h;show CallsIn Fence.wide 6 prog 202 #[.func (.yield l) #[] #[],(O b)] W _;refine callsIn_of_wp func202 rfl trivial ?_ rfl;simp only[ntmps202,sZz,Nat.reduceAdd,Nat.reduceSub];gi_wp2;gi_loopw [] (fun wr=>wr=W) (fun _=>0);case atStart=>rfl
 case round=>
  subst hrel;gi_wp2;go_end0;exact⟨⟨_,rfl⟩,.inl ⟨[],rfl,e⟩⟩
theorem zkz:∀args w,(callFunc 202 args).run prog w=.ok (.enter 202 args) w:=enters_of func202 (by kernel_rfl) rfl
theorem zol{x:Nat}(T:ByteArray)(J:T.size=0)(q:w.1[b]?=E (.cells #[.string T] 9 (0,0))):
  Calls prog 71 #[(O x),.func (.func 202) #[] #[(O b)]] w (Rz w (.tuple #[])):=by
 have a:B_ w (w.alloc (.cells #[(O x)] 38)):=(Z _ _).alloc (Q _) _;have j:=(a.block _ (zd q)).trans q;have g:=ze a;have h:=ze j;clear q a j;refine(callsIn_wide (n:=7)).1 ?_;refine callsIn_of_wp_marks func71 rfl trivial ?_ rfl;simp only[ntmps71,sZz,Nat.reduceAdd,Nat.reduceSub];refine wpIn_wide.2 ?_;go_wp2_with fail;generalize(w.alloc (.cells #[(O x)] 38))=X at*;obtain⟨r,-⟩:=zc h;refine(wpIn_wide (n:=7)).1 ?_;refine yk (F:=Fence.wide) (n:=7) rfl (by omega) (gf:=202) (lb:=#[(O b)]) rfl trivial zkz (zfT T J b X r (zd h) (fun _ _=>True) (fun x:ByteArray=>#[.string x]) 0) (Nat.zero_le _) (fun _ _=>trivial) (fun _ _ _ _ _ _=>trivial) (Z _ _) (fun _=>rfl)
  (fun d W=>B_ X W) (fun _ _ _=>False)
  (fun s A B row f m C=>f.trans ⟨m.os,m.tape,m.output,m.size,fun k M=>m.block k (G M f.size) (fun e=>absurd (C k e.symm).1 (by omega))⟩)
  (fun _ _ _ _ _ f _ _=>f)
  (Z _ _)
  (fun _ _ _=>True) (fun _ _ _ _ _ _ f _ _=>f) ?assign ?body ?done ?stop
 case assign=>
  rintro l d y W K i1 z;have H:=ze z;clear z;gi_wp2;exact ud H _ _ (zu (Z _ _)) trivial i1 trivial
 case body=>
  rintro l d y a' W S C i1 _ t;exact absurd t (Nat.not_lt_zero _)
 case done=>
  rintro D xs W I _ i1 i;have p:=ze i;have o:=ze i1;clear i1 i;gi_wp2;have i1:=ud o;have u:=g.size;refine⟨by simp,.inl ⟨_,_,rfl,run_takeDeferred (ud p),?_⟩⟩;have N:zj (fun k=>k=D) W (W.putObj D (.deferred none)):=(zj.refl (fun k=>k=D) W).grown (grownBy_putObj' W D (.deferred none)) (fun k e _=>by cases e;rfl);have v:B_ w W:=g.trans (i1.mono u);exact⟨_,results_none rfl _ _ _,rfl,v.trans (N.below v.size (fun k e=>by have R:k=D:=e;omega))⟩
 case stop=>
  rintro D c d W I L;exact L.elim
theorem zjx(c:Cf)(T:ByteArray)(d:T.size=0)(A:Ids->Y->Prop):zef c T ms0 A:=fun W i ep q b h f hn _=>
 (zol T d f).mono fun e w' ⟨g,a⟩=>⟨g,h.later a,(Kx.below a h.dlt).kb b⟩
theorem zdC{m:MS}{TL':List (Jk×Tsk)}(h:qN c m TL')(e:m.L=[])(k:m.TL=[]):TL'=[]:=by
 obtain⟨Bs,b,d,l,i,j,rfl⟩:=h.to;have f:b=[]:=List.eq_nil_iff_forall_not_mem.2 (fun s a=>by have:=((i s).1 a).1;rw[e]at this;simp[zw]at this);have g:d=[]:=List.eq_nil_iff_forall_not_mem.2 (fun s a=>by have:=((j s).1 a).1;rw[e]at this;simp[zw]at this);rw[f,g,k];rfl
theorem zM.zero{T e:TypeId}{B:Nat}(h:zM T e B w p S fs):zM T e 0 w p S fs:=⟨h.head,Nat.zero_le _,Jt h.row⟩
theorem zjw:(qD 0 []).size<=100:=by rw[Qn];have:=Qo (now:=0) (xs:=[]) (by unfold xX;omega) (by simp);simp at this;omega
theorem zjl(c:Cf)(r:c.ok)(M:c.fits)(R:xR c.s c.le c.la c.wi c.ke c.qu c.n c.F c.W c.K=true)(a:Option Addr)(cap B p:Nat)(fs:Value)(w:Y)(V:B<=w.1.size)(J:zM 111 113 B w p Qj fs)(o:∀w',zj (foot p fs) w w'->TS w' a c.n c.F c.W c.K)(f:Yz w)(m:∀k,foot p fs k->k≠Qt):
  Calls prog 29 #[(cZz c a cap),(O p)] w fun e w'=>∃i:Ids,i.d=p/\e=.returned (.tuple #[(O i.x),I 0])/\zF w' i c 1 ⟨0,[],[],0,[],[]⟩/\zj (foot p fs) w w'/\∀k,xm w' i k->foot p fs k\/w.1.size<=k:=by
 obtain⟨h,u,v⟩:=znl;have H:((vk (Vq Qj) kh).extract 0 (zmJ (vk (Vq Qj) kh))).size=0:=by rw[h,zmg];simp[ByteArray.size]
 have l:DOk Qj 10:=⟨by simp[Qj],by simp[Qj],by simp[Qj],by simp[Qj]⟩;refine(zpG c r R a cap p Qj fs w J.zero 10 (by omega) l u o f m ms0 (fun _ _=>True) (fun _ _ _ _=>trivial) (zjx c _ H _) ⟨by decide,by decide⟩ (by intro x g;cases g) (by decide) (by decide) (by intro p j;cases j) (by decide) (fun t j=>by rw[h];exact(zjF _ _).2.1)).mono ?_;rintro e w' ⟨i,t,TL',N,L,j,q,D,C,A⟩;have y:t=[]:=j.eq_nil;have z:=zdC D rfl rfl;subst y;subst z;obtain⟨T,X,U⟩:=zjF 1 (qD 0 []);rw[v]at q;have b:zeR (Vq Qj) (qD 0 []) 0=(qD 0 []).size+1:=by unfold zeR;rw[h,U];rfl
 have S:=zjw;refine⟨i,N,L,⟨_,qD 0 []++nl,[],q,rfl,?_,by omega,?_,?_,.start _ _ _ M (SOk.new r) (by intro x g;cases g) (by intro x g;cases g) (fun _=>⟨rfl,rfl,rfl⟩)⟩,C,A⟩
 ·show zgP (Vq Qj) (qD 0 [])=_;rw[h,T];rfl
 ·show 0<=zeR (Vq Qj) (qD 0 []) 0/\zeR (Vq Qj) (qD 0 []) 0<=100000000000;rw[b];omega
 ·show((qD 0 []++nl).size:Int)<=2*zeR (Vq Qj) (qD 0 []) 0+4096;rw[b,KM];omega
