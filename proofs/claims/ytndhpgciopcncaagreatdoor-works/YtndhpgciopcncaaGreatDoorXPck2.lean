import Derived.Test.YtndhpgciopcncaaGreatDoorXPck1
import Derived.Test.YtndhpgciopcncaaGreatDoorXFrt0
import Derived.Test.YtndhpgciopcncaaGreatDoorXTel0
import Derived.Test.YtndhpgciopcncaaGreatDoorXKpk0
open Option renaming some → J
open Nat renaming lt_of_lt_of_le → E
open Nat renaming le_refl → Q
open Go.RowKit.Below renaming refl → Y
set_option linter.unusedVariables false
set_option maxRecDepth 20000
set_option maxHeartbeats 8000000
open Go.Proofs.Tryz
namespace Go.Proofs.YtndhpgciopcncaaGreatDoor
open Go.ChangeMaps (setBlock)
open Go.RowKit Go.Maps Go.Shelf
variable {c:Cf} {ep now num:Int} {TL:List (Jk×Tsk)} {QL:List (Tok×Lse)} {b cap qb tb:Nat} {a:Option Addr} {m:RM} {x:Tsk} {tv:Value} {w:World}
theorem zoO(gf:Nat)(lb:Array Value)(c:Nat)(a b:Array Value)(w:World):
  Calls prog 96 #[.func (.func gf) #[] lb,.func (.func c) a b] w fun e w'=>e=.returned (.func (.func 157) #[] #[(O w.1.size),(O (w.1.size+1))])/\w'=(w.alloc (.cells #[.func (.func gf) #[] lb] 174)).alloc (.cells #[.func (.func c) a b] 179):=by
 go_in;go_wp2_with fail;go_ret;exact⟨rfl,rfl⟩
theorem zoL:∀args w,(callFunc 157 args).run prog w=.ok (.enter 157 args) w:=enters_of func157 (by kernel_rfl) rfl
theorem zN.setNum(h:zN w b c tv ep num tb qb TL QL)(n:Int):zN (w.setCell (U b 8) (I n)) b c tv ep n tb qb TL QL:=by
 have a:zj (fun k=>k=b) w (w.setCell (U b 8) (I n)):=zk (zj.refl _ _) rfl;exact⟨xq (i:=8) h.head (I n),h.tg.kept a h.tb_ne,h.leases.kept a h.qb_ne,h.apart⟩
theorem zkb{X:World}(h:xn xJ X qb QL)(d:QL.length<maxLen){t:Tok}(e:t.wf)(g:Lse):
  ∃o,(Instr.mapUpdate 168 (.map (J qb)) (.agg #[I t.ep,I t.num]) (.agg (lZz g))).run prog X=.ok () (setBlock X qb o)/\xn xJ (setBlock X qb o) qb (qM QL t g)/\zj (fun k=>k=qb) X (setBlock X qb o):=by
 obtain⟨o,a,b,c,_⟩:=jJ yu h d e g;exact⟨o,a,b,c⟩
theorem zN.putLeases{w':World}{QL':List (Tok×Lse)}(h:zN w b c tv ep num tb qb TL QL)(d:xn xJ w' qb QL')(a:zj (fun k=>k=qb) w w'):zN w' b c tv ep num tb qb TL QL':=⟨a.heap h.head (fun e=>h.qb_ne e.symm),h.tg.kept a h.apart,d,h.apart⟩
theorem jk{g:Nat}(b0 b c d e f h i j l a:Value):zj (fun k=>k=g) w (((((((((((w.setCell (U g 0) b0).setCell (U g 1) b).setCell (U g 2) c).setCell (U g 3) d).setCell (U g 4) e).setCell (U g 5) f).setCell (U g 6) h).setCell (U g 7) i).setCell (U g 8) j).setCell (U g 9) l).setCell (U g 10) a):=(zk (zk (zk (zk (zk (zk (zk (zk (zk (zk (zk (zj.refl (fun k=>k=g) w) rfl) rfl) rfl) rfl) rfl) rfl) rfl) rfl) rfl) rfl) rfl)
abbrev zkN(c:Cf)(now:Int):={x:Tsk//Vs c now x}
noncomputable def zoX (c:Cf) (now:Int) (h:0<=now) (x:Tsk):zkN c now:=by
 classical exact if hx:Vs c now x then⟨x,hx⟩else⟨⟨true,⟨-1,0,0⟩,0,0,0⟩,⟨by simp,by show(-1:Int)<c.n;omega,by simp,by show(0:Int)<=0/\(0:Int)<=now;omega⟩⟩
theorem Qd(h:0<=now)(a:Vs c now x):(zoX c now h x).1=x:=by unfold zoX;rw[dif_pos a]
theorem Xu{α:Type}(a:α->α->Int)(j:∀x y z,¬a x y<0->¬a y z<0->¬a x z<0)(m:∀x,¬a x x<0)(c:∀x y,a x y<0->¬a y x<0):∀(l:List α) (f g:α),l.foldl (YH a) (J f)=J g->¬a f g<0/\∀x∈l,¬a x g<0
 |[],f,g,h=>by
  have:f=g:=by simpa using h
  subst this;exact⟨m _,fun x d=>by cases d⟩
 |x::l,f,g,h=>by
  rw[List.foldl_cons]at h;by_cases d:a x f<0
  ·have e:YH a (J f) x=J x:=(by simp[YH,d]);rw[e]at h;obtain⟨i,k⟩:=Xu a j m c l x g h;refine⟨j _ _ _ (c _ _ d) i,fun y b=>?_⟩;rcases List.mem_cons.1 b with rfl|b
   ·exact i
   ·exact k y b
  ·have e:YH a (J f) x=J f:=(by simp[YH,d]);rw[e]at h;obtain⟨i,k⟩:=Xu a j m c l f g h;refine⟨i,fun y b=>?_⟩;rcases List.mem_cons.1 b with rfl|b
   ·exact j _ _ _ d i
   ·exact k y b
theorem KQ(c:Cf)(now:Int)(a:Bool)(x y:Tsk):Vr c now a x y<0↔((a=true/\y.kd<x.kd)\/(¬(a=true/\¬x.kd=y.kd)/\(yO c now x<yO c now y\/yO c now x=yO c now y/\yh x y<0))):=by
 unfold Vr zon;generalize yO c now x=b;generalize yO c now y=d;cases a
 ·simp only[orL,jh];repeat' split
  all_goals first|(simp;omega)|(simp;done)|simp_all
 ·simp only[orL,jh];repeat' split
  all_goals first|(simp;omega)|(simp;done)|simp_all
theorem ziX(c:Cf)(now:Int)(a:Bool)(x y z:Tsk)(b:¬Vr c now a x y<0)(d:¬Vr c now a y z<0):¬Vr c now a x z<0:=by
 rw[KQ,qR]at*;generalize yO c now x=e at*;generalize yO c now y=f at*;generalize yO c now z=g at*;cases a<;>simp only[Bool.false_eq_true,true_and,false_and,false_or,not_false_eq_true]at* <;>omega
theorem zdy(c:Cf)(now:Int)(a:Bool)(x:Tsk):¬Vr c now a x x<0:=by
 rw[KQ,qR];omega
theorem ziW(c:Cf)(now:Int)(a:Bool)(x y:Tsk)(h:Vr c now a x y<0):¬Vr c now a y x<0:=by
 rw[KQ,qR]at*;cases a<;>simp only[Bool.false_eq_true,true_and,false_and,false_or,not_false_eq_true]at* <;>omega
theorem zof(c:Cf)(now:Int)(a:Bool)(x y:Tsk)(b:¬Vr c now a x y<0)(d:¬Vr c now a y x<0):x.kd=y.kd/\x.s=y.s:=by
 rw[KQ,qR]at*;have:x.kd=y.kd/\x.s.t=y.s.t/\x.s.se=y.s.se/\x.s.we=y.s.we:=by
  cases a<;>simp only[Bool.false_eq_true,true_and,false_and,false_or,not_false_eq_true]at* <;>omega
 refine⟨this.1,?_⟩;obtain⟨_,⟨_,_,_⟩,_,_,_⟩:=x;obtain⟨_,⟨_,_,_⟩,_,_,_⟩:=y;simp only at this ⊢;rw[this.2.1,this.2.2.1,this.2.2.2]
structure TkT(k:Tk)(x:Tsk):Prop where
 kind:k.kind=x.kd
 s:k.s=x.s
 si:k.si=x.si
theorem zbY{k:Tk}(h:TkT k x)(a:x.si<=m.now):m.pressR k=yO m.c m.now x:=by
 unfold RM.pressR RM.due yO Cf.end;rw[h.kind,h.s,h.si,Int.tdiv_eq_ediv_of_nonneg (by omega)];unfold Tsk.kd;cases x.rl<;>simp
theorem zhx{a b:Tk}{y:Tsk}(e:TkT a x)(f:TkT b y)(g:x.si<=m.now)(h:y.si<=m.now)(d:Bool):m.aheadB d a b=decide (Vr m.c m.now d x y<0):=by
 have k:qw a b=decide (yh x y<0):=by
  unfold qw;rw[e.kind,f.kind,e.s,f.s];rw[Bool.eq_iff_iff,decide_eq_true_eq,qR];repeat' split
  all_goals(simp only[decide_eq_true_eq];omega)
 have i:x.kd=1\/x.kd=2:=by unfold Tsk.kd;split<;>simp
 have j:y.kd=1\/y.kd=2:=by unfold Tsk.kd;split<;>simp
 unfold RM.aheadB;rw[k,zbY e g,zbY f h,e.kind,f.kind,Bool.eq_iff_iff,decide_eq_true_eq,KQ];generalize yO m.c m.now x=l;generalize yO m.c m.now y=n;generalize yh x y=bk;cases d
 ·simp only[Bool.false_eq_true,false_and,if_false,false_or,not_false_eq_true,true_and];split<;>simp only[decide_eq_true_eq]<;>omega
 ·simp only[true_and];split
  ·simp only[decide_eq_true_eq];omega
  ·split<;>simp only[decide_eq_true_eq]<;>omega
def YW(c:Cf)(now:Int)(a:Bool)(QL:List (Tok×Lse))(TL:List (Jk×Tsk))(x:Tsk):Prop:=∀q∈TL,kO QL now q.2=true->¬Vr c now a q.2 x<0
theorem zbj{a:Bool}{l:List (zkN c now)}{g:zkN c now}(h:Zs (fun x y:zkN c now=>Vr c now a x.1 y.1) l=J g):∀x∈l,¬Vr c now a x.1 g.1<0:=by
 cases l with
 |nil=>simp[Zs]at h
 |cons f l=>
  obtain⟨d,e⟩:=Xu (fun x y:zkN c now=>Vr c now a x.1 y.1) (fun x y z=>ziX c now a x.1 y.1 z.1) (fun x=>zdy c now a x.1) (fun x y=>ziW c now a x.1 y.1) l f g h;intro x b;rcases List.mem_cons.1 b with rfl|b
  ·exact d
  ·exact e x b
theorem zfu(h:zN w b c (.slice a c.n cap) ep num tb qb TL QL)(hc:c.ok)(aA:TS w a c.n c.F c.W c.K)(now:Int)(f:Bool)(d:0<=now/\now<=100000)(hT:∀p∈TL,Vs c now p.2)(az:QL.length<=100000):
  Calls prog 48 #[(O b),I now,.bool f] w fun e w'=>B_ w w'/\((e=.returned (.tuple #[.nilIface,.bool false])/\∀p∈TL,kO QL now p.2=false)\/∃p,p∈TL/\kO QL now p.2=true/\YW c now f QL TL p.2/\e=.returned (.tuple #[(jZz p.2),.bool true])):=by
 have aK:=h.lt;obtain⟨y0,y1,a4,yz⟩:=box2 w (.cells #[(O b)] 91) (.cells #[I now] 3);have hX:=h.later a4;have x9:=hX.cell9;have aJ:=hX.lt;obtain⟨m0,-⟩:=zc y0;obtain⟨m1,-⟩:=zc y1;have ao:=ze (zij tb ((w.alloc (.cells #[(O b)] 91)).alloc (.cells #[I now] 3)));have Y0:=ze y0;have Y1:=ze y1;have Z:=ze a4;have YZ:=ze yz;have H:=ze h;have a5:=zd y0;have a6:=zd y1;clear h hX y0 y1 a4 yz;go_in;go_wp2_with fail;generalize((w.alloc (.cells #[(O b)] 91)).alloc (.cells #[I now] 3))=X at*;refine ao.mono ?_;rintro e i ⟨rfl,D⟩;have G:B_ X i:=by rw[D];exact(Y _ _).alloc (Q _) _
 have aa:i.1[X.1.size]?=J (.cells #[.map (J tb)] 169 (0,0)):=by rw[D];exact zo _ _
 have af:i.1.size=X.1.size+1:=by rw[D];exact zE _ _
 have ap:=ze (zoO 158 #[(O X.1.size)] 98 #[] #[(O (w.1.size+1)),(O w.1.size)] i);have n0:=(G.cell (p:=(U w.1.size 0)) a5).trans m0;have n1:=(G.cell (p:=(U (w.1.size+1) 0)) a6).trans m1;have l:=ze G;have aj:=ze aa;have aq:=ze af;clear D G aa af m0 m1 x9;go_wp2_with fail;refine ap.mono ?_;rintro e j ⟨rfl,a9⟩;obtain⟨ae,ad,L,ag⟩:j.1[i.1.size]?=J (.cells #[.func (.func 158) #[] #[(O X.1.size)]] 174 (0,0))/\j.1[i.1.size+1]?=J (.cells #[.func (.func 98) #[] #[(O (w.1.size+1)),(O w.1.size)]] 179 (0,0))/\B_ i j/\j.1.size=i.1.size+2:=by rw[a9];exact box2 i _ _
 have T:=E a5 l.size;have V:=E a6 l.size;have q0:=(L.cell (p:=(U w.1.size 0)) T).trans n0;have q1:=(L.cell (p:=(U (w.1.size+1) 0)) V).trans n1;have an:=ze ae;have al:=ze ad;have A:=ze L;have ar:=ze ag;clear a9 ae ad L ag n0 n1;go_wp2_with fail;have ak:=ze (ziY b now f j);refine ak.mono ?_;rintro e X3 ⟨rfl,hO,o,aB⟩;have N:B_ w j:=Z.trans ((l.mono Z.size).trans (A.mono (by have:=l.size;have:=Z.size;omega)));have k:=N.trans (o.mono N.size);have hZ:X.1.size=w.1.size+2:=ud YZ;have au:i.1.size=X.1.size+1:=ud aq;have av:j.1.size=i.1.size+2:=ud ar;have a2:=H.later N;have S:=(A.block _ (by omega)).trans aj;have R:=(A.block _ V).trans ((l.block _ a6).trans Y1);have P:=(A.block _ T).trans ((l.block _ a5).trans Y0);have u:=zpp (fun x:zkN c now=>x.1) (zoX c now d.1) (ex:=fun _=>False) (n:=j.1.size) X.1.size tb TL (fun p M=>Qd d.1 (hT p M)) j (fun e=>e) (by omega) (by rw[xd S];rfl) a2.tg;have v:=zkC (fun x:zkN c now=>x.1) 158 #[(O X.1.size)] zmN 98 #[] #[(O (w.1.size+1)),(O w.1.size)] zbP (fun x=>kO QL now x.1) i.1.size (i.1.size+1) j (Q _) ⟨by omega,fun e=>e⟩ ⟨by omega,fun e=>e⟩ an al
  (fun x W ⟨m,hk⟩=>by
   have a3:=YM hk (Q _);have g1:=(a3.block _ (by omega)).trans R;have g0:=(a3.block _ (by omega)).trans P;exact zjf (a2.later a3) x.1 now az (w.1.size+1) w.1.size (zd g1) (zd g0) (by rw[xd g1];rfl) (by rw[xd g0];rfl)) u
 have HF:=ze (zfG (fun x:zkN c now=>x.1) 157 #[(O i.1.size),(O (i.1.size+1))] zoL 161 #[(O (j.1.size+2)),(O (j.1.size+3))] zbK (fun x y=>Vr c now f x.1 y.1) X3 (Nat.le_trans (Q _) o.size)
  (fun x y W hW=>zgo (H.later (k.trans (hW.mono k.size))) hc (aA.below (k.trans (hW.mono k.size))) now d f j.1.size (hO.later hW) x.1 y.1 x.2 y.2)
  (v.later o))
 have r2:=(k.block);have B:=ze k;have aC:w.1.size<j.1.size:=by omega
 have aD:w.1.size+1<j.1.size:=by omega
 have ah:=(o.cell (p:=(U w.1.size 0)) aC).trans q0;have ai:=(o.cell (p:=(U (w.1.size+1) 0)) aD).trans q1;have aG:w.1.size+1<X3.1.size:=by omega
 clear N k a2 S R P u v hO o r2 q0 q1 hZ au av aB;go_wp2_with fail;refine HF.mono ?_;rintro e X4 ⟨xs,hS,rfl,r⟩;have aE:w.1.size<X3.1.size:=by omega
 have aF:w.1.size+1<X3.1.size:=by omega
 have z0:=(r.cell (p:=(U w.1.size 0)) aE).trans ah;have z1:=(r.cell (p:=(U (w.1.size+1) 0)) aF).trans ai;have a8:=H.later (B.trans (r.mono B.size));have aI:=ze a8;have C:=ze (B.trans (r.mono B.size));have aH:=r.size;have a0:=ze hS;clear HF ah ai a8 r hS;rcases zia (fun x y:zkN c now=>Vr c now f x.1 y.1) xs with⟨ac,hf⟩|⟨g,hg,hf⟩
 ·rw[hf];dsimp only[Option.map_none,Vz,Option.isSome_none];have z:=C.alloc C.size (.cells #[.nilIface,I 0,I 0,I 0] 177);have a1:=ze z;clear hf z;go_wp2_with fail;go_ret2;refine⟨a1,.inl ⟨rfl,fun p M=>?_⟩⟩;obtain⟨zs,⟨ps,s,rfl⟩,t⟩:=ud a0;rw[ac]at t;cases aw:kO QL now p.2 with
  |false=>rfl
  |true=>
   have:zoX c now d.1 p.2∈(ps.map (fun p:Jk×Tsk=>zoX c now d.1 p.2)).filter (fun x=>kO QL now x.1):=List.mem_filter.2 ⟨List.mem_map.2 ⟨p,s.mem_iff.2 M,rfl⟩,by rw[Qd d.1 (hT p M)];exact aw⟩;rw[<-t]at this;simp at this
 ·rw[hf];dsimp only[Option.map_some,Vz,Qw,Option.isSome_some];have a7:Hid (YW c now f QL TL g.1):=fun q hq ax=>by
   obtain⟨zs,⟨ps,s,rfl⟩,t⟩:=ud a0;have ab:zoX c now d.1 q.2∈xs:=(by rw[t];exact List.mem_filter.2 ⟨List.mem_map.2 ⟨q,s.mem_iff.2 hq,rfl⟩,by rw[Qd d.1 (hT q hq)];exact ax⟩);have:=zbj hf _ ab;rw[Qd d.1 (hT q hq)]at this;exact this
  obtain⟨x,hx⟩:=g;have am:Hid (∃p,p∈TL/\p.2=x/\kO QL now x=true):=by
   obtain⟨zs,⟨ps,s,rfl⟩,t⟩:=ud a0;rw[t]at hg;obtain⟨h1,h2⟩:=List.mem_filter.1 hg;obtain⟨p,M,e⟩:=List.mem_map.1 h1;have e2:=congrArg Subtype.val e;rw[Qd d.1 (hT p (s.mem_iff.1 M))]at e2;exact⟨p,s.mem_iff.1 M,e2,h2⟩
  clear hf hg;have z:=C.alloc C.size (.cells (tZz x) 177);have a1:=ze z;clear z;go_wp2_with fail;go_ret2;obtain⟨p,M,rfl,ay⟩:=ud am;exact⟨a1,.inr ⟨p.1,p.2,M,ay,a7,rfl⟩⟩
theorem ziz(h:zN w b c (.slice a c.n cap) ep num tb qb TL QL)(hc:c.ok)(x:Tsk)(hx:zU TL x.key=J x)(aj:x.key.wf)(slot now:Int)(B:0<=now/\now<=100000)(aA:QL.length<=100000)(ag:0<=num/\num<=1000000000000000)(ad:xX ep)(af:∀q∈QL,q.2.job≠x.key):
  Calls prog 49 #[(O b),(jZz x),I slot,I now] w fun e w'=>e=.returned (.agg #[I x.kd,I x.s.t,I x.s.se,I x.s.we,I x.si,I x.tc,I x.rest,I ep,I (num+1),I slot,I (now+c.le)])/\zN w' b c (.slice a c.n cap) ep (num+1) tb qb TL (qM QL ⟨ep,num+1⟩ ⟨x.kd,x.s,slot,now+c.le⟩)/\zj (fun k=>k=b\/k=qb) w w':=by
 have aN:=h.lt;obtain⟨-,-,-,-,-,-,-,-,w8,-⟩:=zc h.head;have wf:=zI h.head 8;have aO:IntKind.i64.wrap (num+1)=num+1:=by rw[IntKind.wrap_i64];omega
 obtain⟨M,A⟩:∃M,((w.setCell (U b 8) (I (num+1))).alloc Zj)=M:=⟨_,rfl⟩;have ai:(w.setCell (U b 8) (I (num+1))).1.size=w.1.size:=by simp
 have ab:=h.setNum (num+1);have ac:Below (w.setCell (U b 8) (I (num+1))).1.size (w.setCell (U b 8) (I (num+1))) M:=by rw[<-A];exact(Y _ _).alloc (Q _) _
 have F:=ab.later ac;have X:M.1[w.1.size]?=J (.cells #[I 0,I 0,I 0,I 0,I 0,I 0,I 0,I 0,I 0,I 0,I 0] 51 (0,0)):=by rw[<-A,<-ai];exact zo _ _
 have D:=F.lt;have lR:=zd X;obtain⟨s0,s1,s2,s3,s4,s5,s6,s7,s8,-,aG,-⟩:=zc F.head;have am:Hid (zj (fun k=>k=b) w M):=by rw[<-A];exact(zk (zj.refl (fun k=>k=b) w) rfl).alloc _
 have ax:Hid ((⟨ep,num+1⟩:Tok).wf):=⟨ad,by unfold xX;dsimp only;omega⟩;have a5:=fun W=>ze (keyOf_any x W);have a6:=fun W=>ze (keyOf_any x W);have a7:=fun W=>ze (zfV c a cap W);have l:¬b=qb:=fun e=>h.qb_ne e.symm;have aQ:¬b=w.1.size:=by omega
 have aL:¬w.1.size=b:=by omega
 have aD:¬w.1.size=qb:=fun e=>by have:=h.foot_lt qb (.inr (.inr rfl));omega
 have a2:QL.length<maxLen:=by simp only[maxLen];omega
 obtain⟨aH,aI⟩:=hc.le;have aJ:=B.1;have aK:=B.2;have aP:IntKind.i64.wrap (now+c.le)=now+c.le:=by rw[IntKind.wrap_i64];omega
 have N:=h.leases.nodup;have ao:=ze af;have HX:=ze hx;have aa:=ze aj;have ap:=ze N;have a3:=ze F;have aq:=ze X;have ay:=ze A;have H:=ze h;have al:=ze h.foot_lt;clear h ab ac F X A ai af hx aj N ag B ad aA;go_in;go_wp2_with fail;rw[ud ay];clear w8 wf;go_region_held3 (fun w'=>w'.cell? (U b 0)=J (I c.s)/\w'.cell? (U b 1)=J (I c.le)/\w'.cell? (U b 2)=J (I c.la)/\w'.cell? (U b 3)=J (I c.wi)/\w'.cell? (U b 4)=J (I c.ke)/\w'.cell? (U b 5)=J (I c.qu)/\w'.cell? (U b 6)=J (.slice a c.n cap)/\w'.cell? (U b 7)=J (I ep)/\w'.cell? (U b 8)=J (I (num+1))/\w'.cell? (U b 10)=J (.map (J qb))) (go_keep) (first
  |(go_at_call 102;(with_reducible refine(ud (a5 _)).mono ?_);rintro e r ⟨rfl,d⟩;have hv:B_ M r:=⟨d.os,d.tape,d.output,d.size,d.block⟩;clear d;have p0:Cz r b 0 (I c.s):=(hv.cell (p:=(U b 0)) D).trans s0;have p1:Cz r b 1 (I c.le):=(hv.cell (p:=(U b 1)) D).trans s1;have p2:Cz r b 2 (I c.la):=(hv.cell (p:=(U b 2)) D).trans s2;have p3:Cz r b 3 (I c.wi):=(hv.cell (p:=(U b 3)) D).trans s3;have p4:Cz r b 4 (I c.ke):=(hv.cell (p:=(U b 4)) D).trans s4;have p5:Cz r b 5 (I c.qu):=(hv.cell (p:=(U b 5)) D).trans s5;have p6:Cz r b 6 (.slice a c.n cap):=(hv.cell (p:=(U b 6)) D).trans s6;have p7:Cz r b 7 (I ep):=(hv.cell (p:=(U b 7)) D).trans s7;have p8:Cz r b 8 (I (num+1)):=(hv.cell (p:=(U b 8)) D).trans s8;have aE:Cz r b 10 (.map (J qb)):=(hv.cell (p:=(U b 10)) D).trans aG;have l1:=E D hv.size;have a9:=ze hv;clear hv a5)
  |(go_at_call 103;(with_reducible refine(ud (a7 _)).mono ?_);rintro e y ⟨rfl,d⟩;have hv:B_ r y:=⟨d.os,d.tape,d.output,d.size,d.block⟩;clear d;have r0:Cz y b 0 (I c.s):=(hv.cell (p:=(U b 0)) l1).trans p0;have r1:Cz y b 1 (I c.le):=(hv.cell (p:=(U b 1)) l1).trans p1;have r2:Cz y b 2 (I c.la):=(hv.cell (p:=(U b 2)) l1).trans p2;have r3:Cz y b 3 (I c.wi):=(hv.cell (p:=(U b 3)) l1).trans p3;have r4:Cz y b 4 (I c.ke):=(hv.cell (p:=(U b 4)) l1).trans p4;have r5:Cz y b 5 (I c.qu):=(hv.cell (p:=(U b 5)) l1).trans p5;have r6:Cz y b 6 (.slice a c.n cap):=(hv.cell (p:=(U b 6)) l1).trans p6;have r7:Cz y b 7 (I ep):=(hv.cell (p:=(U b 7)) l1).trans p7;have r8:Cz y b 8 (I (num+1)):=(hv.cell (p:=(U b 8)) l1).trans p8;have aF:Cz y b 10 (.map (J qb)):=(hv.cell (p:=(U b 10)) l1).trans aE;have l2:=E l1 hv.size;have a0:=a9.trans (hv.mono a9.size);obtain⟨o,P,hm,m⟩:=zkb (a3.later a0).leases a2 ax ⟨x.kd,x.s,slot,now+c.le⟩;dsimp only at P;obtain⟨U9,hU⟩:∃U9,setBlock y qb o=U9:=⟨_,rfl⟩;rw[hU]at P hm m;have u0:Cz U9 b 0 (I c.s):=(zD (i:=0) m l l2).trans r0;have u1:Cz U9 b 1 (I c.le):=(zD (i:=1) m l l2).trans r1;have u2:Cz U9 b 2 (I c.la):=(zD (i:=2) m l l2).trans r2;have u3:Cz U9 b 3 (I c.wi):=(zD (i:=3) m l l2).trans r3;have u4:Cz U9 b 4 (I c.ke):=(zD (i:=4) m l l2).trans r4;have u5:Cz U9 b 5 (I c.qu):=(zD (i:=5) m l l2).trans r5;have u6:Cz U9 b 6 (.slice a c.n cap):=(zD (i:=6) m l l2).trans r6;have u7:Cz U9 b 7 (I ep):=(zD (i:=7) m l l2).trans r7;have u8:Cz U9 b 8 (I (num+1)):=(zD (i:=8) m l l2).trans r8;have aR:Cz U9 b 10 (.map (J qb)):=(zD (i:=10) m l l2).trans aF;have S:=ze a0;have an:=ze hm;have R:=ze m;clear hv a0 hm m hU a7))
 all_goals(
  have G:=(a3.later S).putLeases an R
  have ah:=(S.block _ lR).trans aq
  have a1:=R.heap ah aD
  have au:=ze a1
  have a4:=ze G
  have lU:b<U9.1.size:=G.lt
  have ak:=zd a1
  obtain⟨-,-,-,-,-,-,-,-,-,u9,-⟩:=zc G.head
  clear G ah a1
  go_wp2_with fail
  go_region_held3 (fun w'=>w'.cell? (U b 9)=J (.map (J tb))) (go_keep) (first
   |(go_at_call 102;(with_reducible refine(ud (a6 _)).mono ?_);rintro e L ⟨rfl,d⟩;have hv:B_ U9 L:=⟨d.os,d.tape,d.output,d.size,d.block⟩;clear d;have q9:Cz L b 9 (.map (J tb)):=(hv.cell (p:=(U b 9)) lU).trans u9;have z:=a4.later hv;have az:=zah z.tg aa HX;have ae:=zah (z.later (Y _ _).drew).tg aa HX;dsimp only[Tsk.key]at az ae;have Z:=fun W (hW:B_ L W)=>ze (zfi (z.later hW) x ⟨ep,num+1⟩ ⟨x.kd,x.s,slot,now+c.le⟩ (zP (by rw[jU (ud ap),if_pos rfl])) rfl (fun q hq e=>by
    rcases yB hq with rfl|⟨hq,_⟩
    ·rfl
    ·exact absurd e (ud ao q hq)));have av:=Z L (Y _ _);have aw:=Z L.drew (Y _ _).drew;have V:=ze hv;have aC:=E ak hv.size;have aB:=z.lt;clear hv z Z)
   |(go_at_call 104;(first|(with_reducible refine(ud av).mono ?_)|(with_reducible refine(ud aw).mono ?_));rintro e T ⟨rfl,u⟩;have K:B_ L T:=⟨u.os,u.tape,u.output,u.size,u.block⟩;clear u;have C:=(K.block _ aC).trans ((V.block _ ak).trans au);have g9:Cz T b 9 (.map (J tb)):=(K.cell (p:=(U b 9)) aB).trans q9;obtain⟨e0,e1,e2,e3,e4,e5,e6,e7,e8,e9,aM,-⟩:=zc C;have ef:=fun j=>zI C j;have lT:w.1.size<T.1.size:=zd C;have ar:=ze C;have a8:=ze K;clear C K))
  all_goals(
   go_wp2_with fail
   have hf:=XG ar (I x.kd) (I x.s.t) (I x.s.se) (I x.s.we) (I x.si) (I x.tc) (I x.rest) (I ep) (I (num+1)) (I slot) (I (now+c.le))
   refine bodyPost_ret (v:=.agg #[I x.kd,I x.s.t,I x.s.se,I x.s.we,I x.si,I x.tc,I x.rest,I ep,I (num+1),I slot,I (now+c.le)]) (results_cell_row results49 _ _ w.1.size _ _ _ _ rfl hf underlying51 rfl (by kernel_rfl)) rfl ?_
   have kT:=jk (w:=T) (g:=w.1.size) (I x.kd) (I x.s.t) (I x.s.se) (I x.s.we) (I x.si) (I x.tc) (I x.rest) (I ep) (I (num+1)) (I slot) (I (now+c.le))
   have k1:zj (fun k=>k=b\/k=qb) w M:=am.mono (fun k _ e=> .inl e)
   have k2:=k1.trans (zj.of_below (f:=fun k=>k=b\/k=qb) S) (fun _ _ e=>e)
   have k3:=k2.trans (R.mono (fun k _ e=> .inr e)) (fun _ _ e=>e)
   have k4:=k3.trans (zj.of_below (f:=fun k=>k=b\/k=qb) V) (fun _ _ e=>e)
   have k5:=k4.trans (zj.of_below (f:=fun k=>k=b\/k=qb) a8) (fun _ _ e=>e)
   exact⟨rfl,((a4.later V).later a8).kept kT (fun k m e=>by have:=ud al k m;omega),k5.trans kT (fun k m e=>by omega)⟩))
theorem QG{m:RM}:∀(n:Nat),m.bestI n=none->∀i x,i<n->m.tg[i]?=J x->m.freeT x=false
 |0,_,i,x,b,_=>absurd b (Nat.not_lt_zero _)
 |n+1,h,i,x,b,c=>by
  rw[ZI]at h;cases a:m.bestI n with
  |some j=>
   rw[a]at h;unfold RM.betterI at h;split at h
   ·cases h
   ·split at h
    ·simp only at h;split at h
     ·cases h
     ·split at h<;>cases h
    ·cases h
  |none=>
   by_cases e:i=n
   ·subst e;cases d:m.freeT x with
    |false=>rfl
    |true=>rw[a,Zp c d]at h;cases h
   ·exact QG n a i x (by omega) c
theorem jQ{m:RM}(f:Tk->Tsk)(g:∀k∈m.tg,TkT k (f k)/\(f k).si<=m.now):∀(n j:Nat) (l:Tk),m.bestI n=J j->m.tg[j]?=J l->∀i x,i<n->m.tg[i]?=J x->m.freeT x=true->¬Vr m.c m.now m.tight (f x) (f l)<0
 |0,j,l,h,d,i,x,u,_,_=>absurd u (Nat.not_lt_zero _)
 |n+1,j,l,h,d,i,x,u,b,a=>by
  rw[ZI]at h;have A:=g l (List.mem_of_getElem? d);have B:=g x (List.mem_of_getElem? b);cases hn:m.tg[n]? with
  |none=>
   have e:m.betterI (m.bestI n) n=m.bestI n:=(by unfold RM.betterI;rw[hn]);rw[e]at h;have:¬i=n:=fun e=> (by subst e;rw[hn]at b;cases b);exact jQ f g n j l h d i x (by omega) b a
  |some y=>
   have p:=g y (List.mem_of_getElem? hn);cases s:m.freeT y with
   |false=>
    rw[K0 hn s]at h;have:¬i=n:=fun e=> (by subst e;rw[hn]at b;cases b;rw[s]at a;cases a);exact jQ f g n j l h d i x (by omega) b a
   |true=>
    cases o:m.bestI n with
    |none=>
     rw[o,Zp hn s]at h;cases h;rw[hn]at d;cases d;by_cases e:i=n
     ·subst e;rw[hn]at b;cases b;exact zdy _ _ _ _
     ·have:=QG n o i x (by omega) b;rw[this]at a;cases a
    |some j'=>
     obtain⟨v,z,t,C⟩:=XW m n o;have q:=g z (List.mem_of_getElem? t);have w:=jQ f g n j' z o t;rw[o,VN hn s t,zhx p.1 q.1 p.2 q.2]at h;by_cases r:Vr m.c m.now m.tight (f y) (f z)<0
     ·rw[if_pos (by simpa using r)]at h;cases h;rw[hn]at d;cases d;by_cases e:i=n
      ·subst e;rw[hn]at b;cases b;exact zdy _ _ _ _
      ·exact ziX _ _ _ _ (f z) _ (w i x (by omega) b a) (ziW _ _ _ _ _ r)
     ·rw[if_neg (by simpa using r)]at h;cases h;rw[t]at d;cases d;by_cases e:i=n
      ·subst e;rw[hn]at b;cases b;exact r
      ·exact w i x (by omega) b a
