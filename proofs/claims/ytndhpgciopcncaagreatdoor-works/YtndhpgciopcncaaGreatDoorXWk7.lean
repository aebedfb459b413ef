import Derived.Test.YtndhpgciopcncaaGreatDoorXConf4
import Derived.Test.YtndhpgciopcncaaGreatDoorXWk3
import Derived.Test.YtndhpgciopcncaaGreatDoorXLad0
import Derived.Test.YtndhpgciopcncaaGreatDoorXWk0
import Derived.Test.YtndhpgciopcncaaGreatDoorXWk4
import Derived.Test.YtndhpgciopcncaaGreatDoorXWkk
import Derived.Test.YtndhpgciopcncaaGreatDoorXLawC
import Derived.Test.YtndhpgciopcncaaGreatDoorXOpen
import Derived.Test.YtndhpgciopcncaaGreatDoorXWorksFact
import Derived.Test.YtndhpgciopcncaaGreatDoorCards
import Derived.Test.YtndhpgciopcncaaGreatDoorTie
import Derived.Handy
open Option renaming some → E
open Nat renaming le_refl → Q
open Go.RowKit renaming Below → Y
open Option renaming none → N
open Go renaming World → D
open Go renaming Value → P
open Go.RowKit.Below renaming refl → M
set_option linter.unusedVariables false
set_option maxRecDepth 100000
set_option maxHeartbeats 4000000
open Go.Proofs.Tryz
namespace Go.Proofs.YtndhpgciopcncaaGreatDoor
section
open Go.RowKit Go.Maps Go.Shelf
variable {l1 l2 ps:List PD} {kn:List P} {B k q wb:Nat} {p:PD} {lv pv:P} {W w w':D}
theorem ziT(c:Cf)(g:24*(c.n+1)<=281474976710656)(m:xR c.s c.le c.la c.wi c.ke c.qu c.n c.F c.W c.K=false)(a:Option Addr)(cap p:Nat)(w:D)(i:TS w a c.n c.F c.W c.K):
  Calls prog 74 #[(cZz c a cap),(O p)] w (Rz w (.tuple #[.pointer N,I 1,.bool true])):=by
 refine(zbJ c.s c.le c.la c.wi c.ke c.qu a c.n cap c.F c.W c.K g w p (fun _=>False) (fun k h=>h.elim) (fun w' b=>i.below (b.below (Q _) (fun k h=>h.elim))) (fun j d _=>j=N/\d=1) (fun j d A B b h=>h) (fun l q r o=>?_)).mono ?_
 ·refine(zjm c m (E (U (w.1.size+1) 0)) (c.n+1) p l (o l (zj.refl _ _))).mono ?_;rintro e w5 ⟨rfl,f⟩;exact⟨N,1,rfl,zj.of_below f,rfl,rfl⟩
 ·rintro e w' ⟨j,d,rfl,b,rfl,rfl⟩;exact⟨rfl,b.below (Q _) (fun k h=>h.elim)⟩
def ziS(c:Cf)(p:Nat)(fs:P)(w:D)(e:Ending)(w':D):Prop:=
 ∃i:Ids,i.d=p/\e=.returned (.tuple #[(O i.x),I 0,.bool true])/\zF w' i c 1 ⟨0,[],[],0,[],[]⟩/\zj (foot p fs) w w'/\∀k,xm w' i k->foot p fs k\/w.1.size<=k
theorem zgn(c:Cf)(G:c.ok)(H:xR c.s c.le c.la c.wi c.ke c.qu c.n c.F c.W c.K=true)(a:Option Addr)(cap B p:Nat)(fs:P)(w:D)(V:B<=w.1.size)(r:zM 111 113 B w p Qj fs)(y:∀w',zj (foot p fs) w w'->TS w' a c.n c.F c.W c.K)(g:Yz w)(v:∀k,foot p fs k->k≠Qt):
  Calls prog 74 #[(cZz c a cap),(O p)] w (ziS c p fs w):=by
 have u:=r.lt;have S:=g.lt;have m:∀k,foot p fs k->k<w.1.size:=fun k b=>by
  rcases b with rfl|b
  ·exact u
  ·exact Zz r.row k b
 have L:=G.n4;refine(zbJ c.s c.le c.la c.wi c.ke c.qu a c.n cap c.F c.W c.K (by omega) w p (foot p fs) m y
  (fun z q w'=>∃i:Ids,i.d=p/\z=E (U i.x 0)/\q=0/\zF w' i c 1 ⟨0,[],[],0,[],[]⟩/\∀k,xm w' i k->foot p fs k\/w.1.size+3<=k)
  (fun z q A B b h=>?_) (fun T C X R=>?_)).mono ?_
 ·obtain⟨i,o,I,J,l,f⟩:=h;have t:¬i.d=w.1.size+1:=by omega
  refine⟨i,o,I,J,l.kept b (fun k b e=>?_) (fun e=>?_),fun k j=>f k ?_⟩
  ·have e:k=w.1.size+1:=e;rcases f k b with h|h
   ·have:=m k h;omega
   ·omega
  ·have e:Qt=w.1.size+1:=e;omega
  ·unfold xm at j ⊢;rw[ji b l.dlt t]at j;exact j
 ·refine(zjl c G (Js H) H (E (U (w.1.size+1) 0)) (c.n+1) B p fs T (by omega) (r.later C) R (Yt g C) v).mono ?_;rintro e w5 ⟨i,o,rfl,l,b,f⟩;exact⟨_,_,rfl,b,i,o,rfl,rfl,l,fun k b=>(f k b).imp id (fun h=>by omega)⟩
 ·rintro e w' ⟨z,q,rfl,b,i,o,rfl,rfl,l,f⟩;exact⟨i,o,rfl,l,b,fun k b=>(f k b).imp id (fun h=>by omega)⟩
theorem zfe:Ys Qj (-1)=Qj:=by rfl
theorem zeK:zt Qj=false:=by rfl
theorem zgm(c:Cf)(Z:24*(c.n+1)<=281474976710656)(hr:xR c.s c.le c.la c.wi c.ke c.qu c.n c.F c.W c.K=false)(a:Option Addr)(cap wb:Nat)(w:D)(L:TS w a c.n c.F c.W c.K):
  Calls prog 33 #[(O wb),(cZz c a cap),I (-1)] w (Rz w (.bool true)):=by
 have G:B_ w (w.alloc (.cells (aZz c a cap) 27)):=(M _ _).alloc (Q _) _;have S:=ze (CF.made w 27 (0,0) c.s c.le c.la c.wi c.ke c.qu a c.n cap);have T:Hid ((w.alloc (.cells (aZz c a cap) 27)).1.size=w.1.size+1):=zE w _;have u:=ze G;clear G;go_in;go_wp2_with fail;generalize(w.alloc (.cells (aZz c a cap) 27))=X at*;refine(ziM 0 X (Nat.zero_le _)).mono ?_;rintro e w1 ⟨rfl,H,B,V⟩;have p:=ze (zfd 0 _ Qj _ (-1) w1 H);rw[zfe]at p;have t:=ze B;clear V B H;go_wp2_with fail;refine p.mono ?_;rintro e w2 ⟨rfl,r,J⟩;have o:=ze (yH 0 _ Qj _ w2 r);rw[zeK]at o;have m:zj (fun k=>k=X.1.size) X w2:=(zj.of_below (f:=fun k=>k=X.1.size) t).trans J (fun i hi e=>by
  rcases e with e|e
  ·exact e
  ·cases e)
 have b:B_ X w2:=m.below (Q _) (fun k e=>by omega);have l:B_ w w2:=u.trans (b.mono u.size);have A:w.1.size<X.1.size:=by have:=ud T;omega
 have j:=ze (S.below b A);obtain⟨_,c0,c1,c2,c3,c4,c5,c6⟩:=ud j;have d:=ze l;have v:=ze b;have a0:=ze r;clear J m r b l p t;go_wp2_with fail;refine o.mono ?_;rintro e V1 ⟨rfl,z⟩;rw[z];clear z o;have x:=ze (ziT c Z hr a cap X.1.size w2 (L.below d));go_wp2_with fail;refine x.mono ?_;rintro e w3 ⟨rfl,q⟩;have g:=d.trans (q.mono d.size);have U:w.1.size<w2.1.size:=Nat.lt_of_lt_of_le A v.size;obtain⟨_,d0,d1,d2,d3,d4,d5,d6⟩:=j.below q U;have y:=ze (Yl c.s c.le c.la c.wi c.ke c.qu a c.n cap c.F c.W c.K w3 (L.below g));rw[hr,show Q6 false=1 from rfl]at y;have h:=ze g;clear q g x c0 c1 c2 c3 c4 c5 c6;go_wp2_with fail;refine y.mono ?_;rintro e w4 ⟨rfl,C⟩;have R:=ze C;clear C;go_wp2_with fail;go_ret;exact⟨rfl,h.trans (R.mono h.size)⟩
theorem Z0{e:TypeId}{size:Nat}{v:P}{n:Nat}{xs:List P}(h:w.ownsRow B e size v n xs)(a:v.ownBlock=E k):B<=k:=by
 rcases h.2 with⟨rfl,_⟩|⟨g,cap,b,rfl,c,_⟩
 ·cases a
 ·cases a;exact c
theorem Tryz.infoPostP:(prog.info? 134).map (fun i=>(i.zero,i.size,i.bytes))=E (E (.pointer N),1,8):=by kernel_rfl
def zeI(w:D)(wb Bp:Nat)(pv lv:P)(ps:List Nat)(w':D):Prop:=∃(p:PD) (a:P),p.at w'/\p.m=⟨0,[],[],0,[],[]⟩/\p.th=[]/\p.ep=1/\w'.1[wb]?=E (.cells #[a,lv] 77 (0,0))/\w'.ownsRow Bp 134 1 a (ps.length+1) ((ps++[p.po]).map (fun q=>(O q)))/\(∀k,p.foot k->w.1.size<=k)/\zj (fun k=>k=wb\/pv.ownBlock=E k) w w'/\∀k,a.ownBlock=E k->pv.ownBlock=E k\/w.1.size<=k
theorem KN(c:Cf)(hc:c.ok)(hr:xR c.s c.le c.la c.wi c.ke c.qu c.n c.F c.W c.K=true)(a:Option Addr)(cap wb:Nat)(w:D)(aV:TS w a c.n c.F c.W c.K)(af:Yz w){ps:List Nat}(hw:w.1[wb]?=E (.cells #[pv,lv] 77 (0,0))){Bp:Nat}(bb:Bp<=w.1.size)(ce:Qt<Bp/\Bp<=wb)(ad:w.ownsRow Bp 134 1 pv ps.length (ps.map (fun q=>(O q))))(c9:ps.length+1<=maxLen)(ca:(ps.length+1)*8<=140737488355328):
  Calls prog 33 #[(O wb),(cZz c a cap),I (-1)] w fun e w'=>e=.returned (.bool true)/\zeI w wb Bp pv lv ps w':=by
 obtain⟨pa,m,rfl⟩:=zq ad;have cg:=zd hw;have bu:¬(Value.slice pa ps.length m).ownBlock=E wb:=fun e=>by
  obtain⟨bP,hc⟩:=zG ad e;rw[hw]at hc;injection hc with hc;injection hc with _ hc;exact absurd hc (by decide)
 have bM:Hid (¬Qt=wb):=fun e=>by omega
 have bL:Hid (¬(Value.slice pa ps.length m).ownBlock=E Qt):=fun e=>by have:=Z0 ad e;omega
 clear ce;have HW:=ze hw;have aH:=ze ad;have bE:=ze bb;have aw:=ze af;have cn:=af.lt;clear af;clear bb;clear hw ad;have be:B_ w (w.alloc (.cells (aZz c a cap) 27)):=(M _ _).alloc (Q _) _;have bF:=ze (CF.made w 27 (0,0) c.s c.le c.la c.wi c.ke c.qu a c.n cap);have bN:Hid ((w.alloc (.cells (aZz c a cap) 27)).1.size=w.1.size+1):=zE w _;have aY:=ze be;clear be;go_in;go_wp2_with fail;generalize(w.alloc (.cells (aZz c a cap) 27))=X at*;refine(ziM 0 X (Nat.zero_le _)).mono ?_;rintro e w1 ⟨rfl,bg,bd,cc⟩;have aK:=ze (zfd 0 _ Qj _ (-1) w1 bg);rw[zfe]at aK;have aW:=ze bd;clear cc bd bg;go_wp2_with fail;refine aK.mono ?_;rintro e w2 ⟨rfl,aO,bj⟩;have aJ:=ze (yH 0 _ Qj _ w2 aO);rw[zeK]at aJ;have aC:zj (fun k=>k=X.1.size) X w2:=(zj.of_below (f:=fun k=>k=X.1.size) aW).trans bj (fun i hi e=>by
  rcases e with e|e
  ·exact e
  ·cases e)
 have J:B_ X w2:=aC.below (Q _) (fun k e=>by omega);have az:B_ w w2:=aY.trans (J.mono aY.size);have aL:w.1.size<X.1.size:=by have:=ud bN;omega
 have ar:=ze (bF.below J aL);obtain⟨_,c0,c1,c2,c3,c4,c5,c6⟩:=ud ar;have C:=ze az;have aZ:=ze J;have bG:=ze aO;clear bj aC aO J az aK aW;go_wp2_with fail;refine aJ.mono ?_;rintro e V1 ⟨rfl,bc⟩;rw[bc];clear bc aJ;have bA:w.1.size<=X.1.size:=Nat.le_of_lt aL;have bz:w.1.size<=w2.1.size:=C.size;have b5:=ze (zgn c hc hr a cap 0 X.1.size (.slice N 0 0) w2 (Nat.zero_le _) bG (fun w' b=>aV.below (C.trans (b.below bz (fun k e=>by
  rcases e with e|e
  ·omega
  ·cases e)))) (Yt aw C) (fun k e=>by
  rcases e with e|e
  ·omega
  ·cases e))
 go_wp2_with fail;refine b5.mono ?_;rintro e w3 ⟨i,bi,rfl,br,bk,aD⟩;have aM:Y X.1.size w2 w3:=bk.below aZ.size (fun k e=>by
  rcases e with e|e
  ·omega
  ·cases e)
 have a6:B_ w w3:=C.trans (aM.mono bA);have a8:=ar.below aM aL;obtain⟨_,d0,d1,d2,d3,d4,d5,d6⟩:=id a8;have aI:=ze (Yl c.s c.le c.la c.wi c.ke c.qu a c.n cap c.F c.W c.K w3 (aV.below a6));rw[hr,show Q6 true=0 from rfl]at aI;have aq:=ze a6;have au:=ze a8;have b2:=ze br;have bH:=ze bi;have b3:=ze aD;clear br bi bk aD aM a6 a8 b5 c0 c1 c2 c3 c4 c5 c6;go_wp2_with fail;refine aI.mono ?_;rintro e l ⟨rfl,a5⟩;have aA:=aq.trans (a5.mono aq.size);have bV:w.1.size<w3.1.size:=au.1;have a9:=au.below a5 bV;obtain⟨_,e0,e1,e2,e3,e4,e5,e6⟩:=id a9;have aQ:=b2.later a5;have aN:B_ l (l.alloc (zL i.x X.1.size c (.slice a c.n cap) (.slice N 0 0) (.slice N 0 0) 0)):=(M _ _).alloc (Q _) _;have aj:=ze (zkr (aQ.later aN) hc (by decide) (by decide) c (zo l (zL i.x X.1.size c (.slice a c.n cap) (.slice N 0 0) (.slice N 0 0) 0)));rw[show decide ((0:Int)<1)=true from rfl]at aj;have bD:=ze a5;have a2:=ze aA;have av:=ze a9;have ai:=ze aQ;have aX:=ze aN;clear a5 aA a9 aQ aN aI d0 d1 d2 d3 d4 d5 d6;unfold zL at aj;go_wp2_with fail;refine aj.mono ?_;rintro e w5 ⟨rfl,am,bl⟩;have G:B_ l w5:=aX.trans (bl.below aX.size (fun k e=>by omega));have a7:B_ w w5:=a2.trans (G.mono a2.size);have bW:w.1.size<l.1.size:=av.1;have R:=av.below G bW;obtain⟨_,f0,f1,f2,f3,f4,f5,f6⟩:=id R;obtain⟨-,-,-,-,-,-,-,-,-,-,-,-,bC,-⟩:=zc am;have b9:=ze (zaA c hc a cap 1 w5.drew (aV.below a7.drew));have bX:w.1.size<w5.1.size:=R.1;have b0:=ze R;have aF:=zd am;have b6:=ze am;have B:=ze G;have a3:=ze a7;clear am bl G a7 R aj e0 e1 e2 e3 e4 e5 e6;go_wp2_with fail;go_region_held3 (fun w'=>w'.cell? (U w.1.size 0)=E (I c.s)/\w'.cell? (U w.1.size 1)=E (I c.le)/\w'.cell? (U w.1.size 2)=E (I c.la)/\w'.cell? (U w.1.size 3)=E (I c.wi)/\w'.cell? (U w.1.size 4)=E (I c.ke)/\w'.cell? (U w.1.size 5)=E (I c.qu)/\w'.cell? (U w.1.size 6)=E (.slice a c.n cap)/\w'.cell? (U l.1.size 12)=E (I 1)) (go_keep) (first
  |(go_at_call 77;refine b9.mono ?_;rintro e w6 ⟨r,ap,rfl,ae,V⟩;have A:B_ w5 w6:=⟨V.os,V.tape,V.output,V.size,V.block⟩;have b8:Hid (zR w5.1.size w6 r ⟨c,0,[],[],[],[],1,0⟩ ap (.slice N 0 0) (.slice N 0 0) (.slice N 0 0) (.slice N 0 0)):=ae;clear V ae;have ch:=(A.cell (p:=(U l.1.size 12)) aF).trans bC;obtain⟨_,h0,h1,h2,h3,h4,h5,h6⟩:=b0.below A bX;have a0:=ze A;clear A))
 have A:=ud a0;have an:=(A.block l.1.size (zd b6)).trans b6;obtain⟨-,-,-,-,-,-,-,-,-,p9,-⟩:=zc an;have bv:=zd an;have aB:B_ w w6:=a3.trans (A.mono a3.size);have bf:B_ w6 (w6.alloc (.cells #[(O r)] 138)):=(M _ _).alloc (Q _) _;have cb:¬wb=l.1.size:=by omega
 have a4:=ze aB;have aG:=ze bf;clear aB bf;have bq:0<1:=by decide
 have bY:0+1<=maxLen:=by simp[maxLen]
 have bZ:(0+1)*8<=140737488355328:=by omega
 have bJ:=ze an;clear an A b9 bC ch f0 f1 f2 f3 f4 f5 f6 h0 h1 h2 h3 h4 h5 h6;go_wp2_with(first|(at_builtin;refine zO rfl _ _ 135 rfl 0 138 _ 1 8 underlying135 Tryz.infoRefP rfl (by decide) (.slice N 0 0) 0 [] rfl (World.ownsRow_nil _ _ _ _) (U w6.1.size 0) 1 1 [(O r)] rfl rfl (World.news_of_block (cs:=#[(O r)]) (zo w6 _)) (by intro u hu;simp at hu;subst hu;rfl) bq bY bZ (Nat.zero_le _) ?_;intro v g o aa aR S ax cj;have bI:=ze aa;have H:B_ w6 o:=aG.grown S aG.size (fun k e=>by cases e);have L:B_ w o:=a4.trans (H.mono a4.size);have ag:=(L.block wb cg).trans HW;obtain⟨k0,-⟩:=zc ag;have kf:∀j,o.frozen? (U wb j)=false:=(fun j=>zI ag j);have ac:=(H.block l.1.size bv).trans bJ;obtain⟨-,-,-,-,-,-,-,-,-,k9,-⟩:=zc ac;have kp:∀j,o.frozen? (U l.1.size j)=false:=(fun j=>zI ac j);have cm:=zd ac;have co:=zd ag;have cu:w6.1.size<=v:=(by rcases ax with h|h;cases h;rw[h];exact aG.size);have bB:(o.setCell (U l.1.size 9) (.slice (E (U v 0)) 1 g)).1.size=o.1.size:=(by simp[World.setCell]);have bO:Hid (((o.setCell (U l.1.size 9) (.slice (E (U v 0)) 1 g)).alloc (.cells #[(O l.1.size)] 134)).1[o.1.size]?=E (.cells #[(O l.1.size)] 134)):=(by have h:=zo (o.setCell (U l.1.size 9) (.slice (E (U v 0)) 1 g)) (.cells #[(O l.1.size)] 134);rw[bB]at h;exact h);have y:Hid (zj (fun k=>k=l.1.size) w ((o.setCell (U l.1.size 9) (.slice (E (U v 0)) 1 g)).alloc (.cells #[(O l.1.size)] 134))):=kC (zk (zj.of_below L) rfl) ((M _ _).alloc (Q _) _);have bK:Hid (((o.setCell (U l.1.size 9) (.slice (E (U v 0)) 1 g)).alloc (.cells #[(O l.1.size)] 134)).ownsRow Bp 134 1 (.slice pa ps.length m) ps.length (ps.map (fun q=>(O q)))):=zi aH y (fun k b e=>by have h:=Zz aH k b;omega);clear bB;have a1:=ze H;have ci:=ze L;have ct:=ze ag;have b7:=ze ac;clear aa aR S ax H L ag ac)|(at_builtin;refine zO rfl _ _ 74 rfl Bp 134 _ 1 8 underlying74 Tryz.infoPostP rfl (by decide) (.slice pa ps.length m) ps.length (ps.map (fun q=>(O q))) rfl (ud bK) (U o.1.size 0) 1 1 [(O l.1.size)] rfl rfl (World.news_of_block (cs:=#[(O l.1.size)]) (ud bO)) (by intro u hu;simp at hu;subst hu;rfl) bq c9 ca (Nat.le_trans bE y.size) ?_;intro g8 z W8 ab aS T ay ck;have b4:=ze ab;have aP:zj (fun k=>(Value.slice pa ps.length m).ownBlock=E k) ((o.setCell (U l.1.size 9) (.slice (E (U v 0)) 1 g)).alloc (.cells #[(O l.1.size)] 134)) W8:=(zj.refl _ _).grown T (fun k e _=>e);have bx:((o.setCell (U l.1.size 9) (.slice (E (U v 0)) 1 g)).alloc (.cells #[(O l.1.size)] 134)).1[wb]?=_:=y.heap HW cb;have ah:=aP.heap bx bu;obtain⟨m0,-⟩:=zc ah;have mf:∀j,W8.frozen? (U wb j)=false:=(fun j=>zI ah j);have cp:=zd ah;have b1:=ze aP;have ba:=ze ah;have bS:(Value.slice pa ps.length m).ownBlock=E g8\/w.1.size<=g8:=(by rcases ay with h|h;exact .inl h;right;rw[h];exact y.size);clear ab aS T ay aP bx ah)|go_in);have al:=(((ai.later B).later a0).later a1);have bs:=ai.later B;have c7:=bs.later a0;have c8:∀k,xm o i k->xm w3 i k:=fun k b=>(b2.flt.same bD).1 ((ai.flt.same B).1 ((bs.flt.same a0).1 ((c7.flt.same a1).1 b)));have ao:=b8.later a1;have cv:w.1.size<=l.1.size:=a2.size;have cw:w.1.size<=w5.1.size:=a3.size;have cx:w.1.size<=w6.1.size:=a4.size;have cq:l.1.size<=w5.1.size:=B.size;have cr:w5.1.size<=w6.1.size:=a0.size;have aE:=al.not_post b7;have bt:=al.ne_d aE;have cd:(o.setCell (U l.1.size 9) (.slice (E (U v 0)) 1 g)).1[l.1.size]?=E (zL i.x X.1.size c (.slice a c.n cap) (.slice (E (U v 0)) 1 g) (.slice N 0 0) 1):=by
  have hq:=ud b7;unfold zL at hq ⊢;exact xq (i:=9) hq _
 have ak:zj (fun k=>k=l.1.size) o (o.setCell (U l.1.size 9) (.slice (E (U v 0)) 1 g)):=zk (zj.refl _ _) rfl;have aT:∀k,jI r ap (.slice N 0 0) (.slice N 0 0) (.slice N 0 0) (.slice N 0 0) k->w5.1.size<=k:=fun k b=>by
  rcases b with rfl|b|b|b|b|b
  ·exact ao.base
  ·exact Z0 ao.trow b
  ·cases b
  ·cases b
  ·cases b
  ·cases b
 have cl:l.1.size<w5.1.size:=aF;have bR:PD.at ⟨l.1.size,X.1.size,r,i,c,.slice a c.n cap,.slice (E (U v 0)) 1 g,.slice N 0 0,fsB (o.setCell (U l.1.size 9) (.slice (E (U v 0)) 1 g)) i.d,1,⟨0,[],[],0,[],[]⟩,[],0,w5.1.size,⟨c,0,[],[],[],[],1,0⟩,ap,.slice N 0 0,.slice N 0 0,.slice N 0 0,.slice N 0 0⟩ (o.setCell (U l.1.size 9) (.slice (E (U v 0)) 1 g)):=by
  refine⟨cd,al.kept ak (fun k b e=>aE (e▸b)) (fun e=>?_),⟨(ud bH).symm,rfl,fun k b e=>by have h1:=Z0 ao.trow b;have h2:=ai.foot_lt k (.inl (.inr (.inl (.inr (.inl e)))));omega⟩,zi bI ak (fun k b e=>?_),World.ownsRow_nil _ _ _ _,ao.kept ak (fun k b e=>?_),(fun k e=>by cases e),ql.new hc (Js hr),(fun t ht=>by cases ht),(fun k b e=>?_)⟩
  ·have e:Qt=l.1.size:=e;omega
  ·have hg:v=k:=Option.some.inj b;omega
  ·have:=aT k b;omega
  ·rcases b with b|b|b|b|b
   ·have:k=l.1.size:=b;omega
   ·exact b
   ·have hg:v=k:=Option.some.inj b;omega
   ·cases b
   ·have:=aT k b;omega
 have bh:∀k,PD.foot ⟨l.1.size,X.1.size,r,i,c,.slice a c.n cap,.slice (E (U v 0)) 1 g,.slice N 0 0,fsB (o.setCell (U l.1.size 9) (.slice (E (U v 0)) 1 g)) i.d,1,⟨0,[],[],0,[],[]⟩,[],0,w5.1.size,⟨c,0,[],[],[],[],1,0⟩,ap,.slice N 0 0,.slice N 0 0,.slice N 0 0,.slice N 0 0⟩ k->w.1.size<=k:=fun k b=>by
  rcases b with b|b|b|b|b|b
  ·have bT:xm o i k:=by
    rcases b with b|b
    ·exact .inl b
    ·exact .inr ((ji ak al.dlt bt).symm.trans b)
   rcases ud b3 k (c8 k bT)with h|h
   ·rcases h with h|h
    ·rw[h];exact bA
    ·cases h
   ·exact Nat.le_trans bz h
  ·have:k=l.1.size:=b;omega
  ·exact b.elim
  ·have hg:v=k:=Option.some.inj b;omega
  ·cases b
  ·have:=aT k b;omega
 have bw:=fun k b=>Zz aH k b;have bo:zj (fun k=>k=wb\/(Value.slice pa ps.length m).ownBlock=E k) (o.setCell (U l.1.size 9) (.slice (E (U v 0)) 1 g)) ((o.setCell (U l.1.size 9) (.slice (E (U v 0)) 1 g)).alloc (.cells #[(O l.1.size)] 134)):=zj.of_below ((M _ _).alloc (Q _) _);have bm:zj (fun k=>k=wb\/(Value.slice pa ps.length m).ownBlock=E k) (o.setCell (U l.1.size 9) (.slice (E (U v 0)) 1 g)) W8:=bo.trans b1 (fun k _ h=> .inr h);have bn:zj (fun k=>k=wb\/(Value.slice pa ps.length m).ownBlock=E k) (o.setCell (U l.1.size 9) (.slice (E (U v 0)) 1 g)) (W8.setCell (U wb 0) (.slice (E (U g8 0)) (ps.length+1) z)):=zk bm (.inl rfl);have bU:zj (fun k=>k=wb\/(Value.slice pa ps.length m).ownBlock=E k) w ((o.setCell (U l.1.size 9) (.slice (E (U v 0)) 1 g)).alloc (.cells #[(O l.1.size)] 134)):=⟨y.os,y.tape,y.output,y.size,fun k b _=>y.block k b (by omega)⟩;have bp:zj (fun k=>k=wb\/(Value.slice pa ps.length m).ownBlock=E k) w (W8.setCell (U wb 0) (.slice (E (U g8 0)) (ps.length+1) z)):=zk (bU.trans b1 (fun k _ h=> .inr h)) (.inl rfl);have aU:(W8.setCell (U wb 0) (.slice (E (U g8 0)) (ps.length+1) z)).ownsRow Bp 134 1 (.slice (E (U g8 0)) (ps.length+1) z) (ps.length+1) (ps.map (fun q=>(O q))++[(O l.1.size)]):=zi b4 (zk (f:=fun k=>k=wb) (zj.refl _ _) rfl) (fun k b e=>by
  obtain⟨bP,Z⟩:=zG b4 b;have hq:=ud ba;rw[e,hq]at Z;injection Z with Z;injection Z with _ Z;exact absurd Z (by decide))
 have bQ:=bR.kept bn (fun k b e=>by
  have h1:=bh k b;rcases e with e|e
  ·omega
  ·have:=bw k e;omega) (fun e=>by
  have h9:=ud aw;rcases e with e|e
  ·exact ud bM e
  ·exact ud bL e)
 have cf:=xq (i:=0) ba (.slice (E (U g8 0)) (ps.length+1) z);go_ret;exact⟨rfl,_,_,bQ,rfl,rfl,rfl,cf,by rw[List.map_append];exact aU,bh,bp,fun k b=>by have hg:g8=k:=Option.some.inj b;rw[<-hg];exact bS⟩
def yC(p:PD)(w w':D):Prop:=∃a:PD,a.at w'/\a.po=p.po/\a.ep=p.ep/\a.th.length<=p.th.length+1/\a.m.num<=p.m.num+1/\(∀k,a.foot k->p.foot k\/w.1.size<=k)/\zj p.foot w w'
def zhl(p:PD)(R:RM)(J:Tk)(C:Int)(jb:Tk)(a:Int)(m':MS):Prop:=jb=J/\a=C/\ql p.c p.ep m' R/\m'.num<=p.m.num+1
theorem zkX(p:PD)(h:p.at w)(o:Ops)(S: -9223372036854775808<=o.a/\o.a<=9223372036854775807)(L:(⟨o.te,o.tn⟩:Tok).wf)(T:p.th.length<=1099511627776){kd:Int}(J:¬kd=6)(R:Tok->RM×Int){fc z:Nat}(av:Nat->Tok->Array P)(W:∀t:Tok,zfO (27,26,20,21) p.i.x {o with te:=t.ep,tn:=t.num} t.ep t.num kd fc (av p.i.x t))(Z:∀q (t:Tok),zfO (211,212,214,215) q {o with te:=t.ep,tn:=t.num} t.ep t.num kd z (av q t))(C:∀t:Tok,t.wf->∀V,zF V p.i p.c p.ep p.m->Calls prog fc (av p.i.x t) V fun e l=>∃m',e=.returned (I (R t).2)/\zF l p.i p.c p.ep m'/\Kx p.i V l/\ql p.c p.ep m' (R t).1/\m'.num<=p.m.num+1)(HR:∀(t:Tok) B X q tv nv pv gv kv,zR B X q p.rm tv nv pv gv kv->(∀k,pv.ownBlock=E k->¬gv.ownBlock=E k)->B<=X.1.size->Calls prog z (av q t) X fun e V=>e=.returned (I (R t).2)/\kG B X q (R t).1 tv nv pv gv kv V)(u:∀t,¬(R t).2=13):Calls prog 80 #[(O p.po),.agg (oZz kd o)] w fun e w'=>e=.returned (.bool true)/\yC p w w':=by
 obtain⟨t,U,F⟩:=zcu p.th {o with kd:=kd} S L h.twf T;refine(Ke p h o kd t (fun V s=>F V p.po p.i.x p.d p.c p.ct p.mv p.td p.ep (h.later s).head (h.later s).told) (zhl p (R t).1 zaU (R t).2) (fun V s=>?_) ?_ ?_ (fun e=>absurd e J)).mono ?_
 ·have n:=h.later s;exact(zkW p.c n.head (n.apart _ (.inl rfl)) n.mill.flt {o with te:=t.ep,tn:=t.num} t.ep t.num (fun b m'=>zhl p (R t).1 zaU (R t).2 zaU b m') (W t) (fun X r=>(C t U X (n.later r).mill).mono fun e l ⟨m',g,v,f,j,H⟩=>⟨_,m',g,v,f,rfl,rfl,j,H⟩)).mono fun e l ⟨b,m',g,v,f,j⟩=>⟨zaU,b,m',g,v,f,j⟩
 ·rintro jb b m' ⟨rfl,rfl,f,j⟩;exact⟨_,f,fun B q V tv nv pv gv kv A y K=>zmL A {o with te:=t.ep,tn:=t.num} t.ep t.num (.inr ⟨rfl,rfl,Z q t⟩) (fun X r=>HR t B X q tv nv pv gv kv (A.later r) y (Nat.le_trans K r.size))⟩
 ·rintro jb b m' ⟨rfl,rfl,f,j⟩;exact u t
 ·rintro e w' ⟨g,p',a1,a2,a3,a4,a5,a6,⟨jb,b,a7⟩,G,a9⟩;exact⟨g,p',a1,a2,a5,a6,a7.2.2.2,G,a9⟩
theorem zqc(p:PD)(h:p.at w)(o:Ops)(i: -9223372036854775808<=o.a/\o.a<=9223372036854775807)(g:(⟨o.te,o.tn⟩:Tok).wf)(j:p.th.length<=1099511627776)(hv: -2147483648<=o.v/\o.v<=2147483647):Calls prog 80 #[(O p.po),.agg (oZz 2 o)] w fun e w'=>e=.returned (.bool true)/\yC p w w':=
 zkX p h o i g j (by decide) (fun t=>p.rm.ingest o.a o.b o.v) (fun q t=>#[(O q),I o.a,I o.b,i_ o.v]) (fun t=> .inl ⟨rfl,rfl,rfl⟩) (fun q t=> .inl ⟨rfl,rfl,rfl⟩) (fun t l V f=>zlp f h.sim o.a o.b o.v hv) (fun t B X q tv nv pv gv kv k c d=>zjD k c d h.sim o.a o.b o.v hv) (fun t=>zqi _ _ _ _)
theorem zqd(p:PD)(h:p.at w)(o:Ops)(c: -9223372036854775808<=o.a/\o.a<=9223372036854775807)(g:(⟨o.te,o.tn⟩:Tok).wf)(i:p.th.length<=1099511627776):Calls prog 80 #[(O p.po),.agg (oZz 3 o)] w fun e w'=>e=.returned (.bool true)/\yC p w w':=
 zkX p h o c g i (by decide) (fun t=>p.rm.tickL o.a) (fun q t=>#[(O q),I o.a]) (fun t=> .inr (.inl ⟨rfl,rfl,rfl⟩)) (fun q t=> .inr (.inl ⟨rfl,rfl,rfl⟩)) (fun t k V f=>zks f h.sim o.a) (fun t B X q tv nv pv gv kv j b d=>zgT j b d h.sim o.a c) (fun t=>zpO _ _)
theorem zqe(p:PD)(h:p.at w)(o:Ops)(R: -9223372036854775808<=o.a/\o.a<=9223372036854775807)(L:(⟨o.te,o.tn⟩:Tok).wf)(S:p.th.length<=1099511627776)(b:p.m.num<=1000000000000000)(y:p.ep=1)(A:(p.th.length+1)*16<=140737488355328):
  Calls prog 80 #[(O p.po),.agg (oZz 6 o)] w fun e w'=>e=.returned (.bool true)/\yC p w w':=by
 obtain⟨t,ht,F⟩:=zcu p.th {o with kd:=6} R L h.twf S;have f:xX p.ep:=by rw[y];unfold xX;omega
 refine(Ke p h o 6 t (fun V n=>F V p.po p.i.x p.d p.c p.ct p.mv p.td p.ep (h.later n).head (h.later n).told) (zhl p (p.rm.pick o.a).1 (p.rm.pick o.a).2.1 (p.rm.pick o.a).2.2) (fun V n=>?_) ?_ ?_ (fun _=>⟨A,?_⟩)).mono ?_
 ·have l:=h.later n;have z:∀X,B_ V X->Calls prog 18 #[(O p.i.x),I o.a] X fun e r=>∃(jb:Tk) (g:Int) (m':MS),e=.returned (.tuple #[tkA jb,I g])/\zF r p.i p.c p.ep m'/\Kx p.i X r/\zhl p (p.rm.pick o.a).1 (p.rm.pick o.a).2.1 (p.rm.pick o.a).2.2 jb g m':=fun X u=>by
   have K:=(l.later u).mill;refine(zji K h.sim b f o.a).mono fun e r ⟨m',s,H,j,k,J⟩=>?_;exact⟨_,_,m',s,H,j,rfl,rfl,k,J⟩
  exact zkV p.c l.head (l.apart _ (.inl rfl)) l.mill.flt {o with te:=t.ep,tn:=t.num} t.ep t.num (zhl p (p.rm.pick o.a).1 (p.rm.pick o.a).2.1 (p.rm.pick o.a).2.2) z
 ·rintro jb g m' ⟨rfl,rfl,j,k⟩;refine⟨_,j,fun B q V tv nv pv gv kv C v hB=>?_⟩;exact zmL C {o with te:=t.ep,tn:=t.num} t.ep t.num (.inl ⟨rfl,rfl,rfl,rfl⟩) (fun X u=>zgS (C.later u) v h.sim b o.a)
 ·rintro jb g m' ⟨rfl,rfl,j,k⟩;exact zpF _ _
 ·rintro jb g m' ⟨rfl,rfl,j,k⟩;have U:=h.sim.sok.ok.num;have W:=h.sim.picks;have Z:=h.sim.epo;unfold RM.pick;unfold Tok.wf xX;repeat' split
  all_goals(dsimp only[zaU,Tk.leased];omega)
 ·rintro e w' ⟨s,T,a1,a2,a3,a4,a5,a6,⟨jb,g,a7⟩,G,a9⟩;exact⟨s,T,a1,a2,a5,a6,a7.2.2.2,G,a9⟩
theorem zqf(p:PD)(h:p.at w)(o:Ops)(g: -9223372036854775808<=o.a/\o.a<=9223372036854775807)(f:(⟨o.te,o.tn⟩:Tok).wf)(i:p.th.length<=1099511627776):Calls prog 80 #[(O p.po),.agg (oZz 7 o)] w fun e w'=>e=.returned (.bool true)/\yC p w w':=
 zkX p h o g f i (by decide) (fun t=>p.rm.commit t.ep t.num) (fun q t=>#[(O q),.agg #[I t.ep,I t.num]]) (fun t=> .inr (.inr (.inl ⟨rfl,rfl,rfl⟩))) (fun q t=> .inr (.inr (.inl ⟨rfl,rfl,rfl⟩))) (fun t k V d=>zcZ d h.sim t k) (fun t B X q tv nv pv gv kv j b c=>zcb j b c h.sim t) (fun t=>zkY _ _ _)
theorem zqg(p:PD)(h:p.at w)(o:Ops)(f: -9223372036854775808<=o.a/\o.a<=9223372036854775807)(d:(⟨o.te,o.tn⟩:Tok).wf)(g:p.th.length<=1099511627776):Calls prog 80 #[(O p.po),.agg (oZz 8 o)] w fun e w'=>e=.returned (.bool true)/\yC p w w':=
 zkX p h o f d g (by decide) (fun t=>p.rm.fail t.ep t.num) (fun q t=>#[(O q),.agg #[I t.ep,I t.num]]) (fun t=> .inr (.inr (.inr ⟨rfl,rfl,rfl⟩))) (fun q t=> .inr (.inr (.inr ⟨rfl,rfl,rfl⟩))) (fun t j V c=>zhX c h.sim t j) (fun t B X q tv nv pv gv kv i b k=>zgM i b h.sim t) (fun t=>zpl _ _ _)
theorem PD.at.asked{Z:D}(h:p.at w)(b:p.at Z)(A:w.1.size<=Z.1.size){g cap:Nat}(z:w.1.size<=g)(j:Z.ownsRow 0 138 1 (.slice (E (U g 0)) 1 cap) 1 [(O p.r)]):
  ∃l:PD,l.at (Z.setCell (U p.po 9) (.slice (E (U g 0)) 1 cap))/\l.po=p.po/\l.ep=p.ep/\l.th=p.th/\l.m=p.m/\(∀k,l.foot k->p.foot k\/w.1.size<=k)/\zj (fun k=>k=p.po) Z (Z.setCell (U p.po 9) (.slice (E (U g 0)) 1 cap)):=by
 have f:zj (fun k=>k=p.po) Z (Z.setCell (U p.po 9) (.slice (E (U g 0)) 1 cap)):=zk (zj.refl _ _) rfl;have s:(Z.setCell (U p.po 9) (.slice (E (U g 0)) 1 cap)).1[p.po]?=E (zL p.i.x p.d p.c p.ct (.slice (E (U g 0)) 1 cap) p.td p.ep):=by
  have u:=b.head;unfold zL at u ⊢;exact xq (i:=9) u _
 have y:=zd h.head;have v:=h.foot_lt;have n:=b.apart p.po (.inl rfl);have q:∀k,jI p.r p.rt p.nv p.pv p.gv p.kv k->¬k=p.po:=fun k a e=>by
  subst e;have t:=b.head;unfold zL at t;rcases a with a|a|a|a|a|a
  ·have:=b.ref.head;rw[<-a,t]at this;injection this with this;injection this with _ this;exact absurd this (by decide)
  ·exact xV b.head b.ref.trow (by decide) a
  ·exact xV b.head b.ref.nrow (by decide) a
  ·exact xV b.head b.ref.prow (by decide) a
  ·exact xV b.head b.ref.grow (by decide) a
  ·exact xV b.head b.ref.krow (by decide) a
 refine⟨⟨p.po,p.d,p.r,p.i,p.c,p.ct,.slice (E (U g 0)) 1 cap,p.td,p.fs,p.ep,p.m,p.th,p.B0,p.B1,p.rm,p.rt,p.nv,p.pv,p.gv,p.kv⟩,⟨s,b.mill.kept f (fun k a e=>n (by rw[<-e];exact a)) (fun e=>b.nt p.po (.inl rfl) e.symm),⟨b.disk.1,(ji f b.mill.dlt (b.mill.ne_d n)).trans b.disk.2.1,b.disk.2.2⟩,zi j f (fun k a e=>by subst e;exact xV b.head j (by decide) a),zi b.told f (fun k a e=>by subst e;exact xV b.head b.told (by decide) a),b.ref.kept f (fun k a e=>q k a e),b.hap,b.sim,b.twf,fun k a=>?_⟩,rfl,rfl,rfl,rfl,fun k a=>?_,f⟩
 ·rcases a with a|a|a|a|a
  ·exact b.nt k (.inl a)
  ·exact a.elim
  ·have o:g=k:=Option.some.inj a;exact fun e=>by have:=h.mill.tab.lt;omega
  ·exact b.nt k (.inr (.inr (.inr (.inl a))))
  ·exact b.nt k (.inr (.inr (.inr (.inr a))))
 ·rcases a with a|a|a|a|a|a
  ·exact .inl (.inl a)
  ·exact .inl (.inr (.inl a))
  ·exact .inl (.inr (.inr (.inl a)))
  ·have o:g=k:=Option.some.inj a;exact .inr (by omega)
  ·exact .inl (.inr (.inr (.inr (.inr (.inl a)))))
  ·exact .inl (.inr (.inr (.inr (.inr (.inr a)))))
theorem zpZ(p:PD)(h:p.at w)(wb:Nat)(o:Ops):
  Calls prog 81 #[(O wb),(O p.po),.agg (oZz 5 o)] w fun e w'=>e=.returned (.bool true)/\yC p w w':=by
 obtain⟨f,j,i⟩:=h.sim.stats;have r:=h.sim.ubound;have q:=h.sim.sok.ok.seg.len400 h.sim.ok;refine(zcO (wb:=wb) h.head h.may o (now:=p.m.now) (U9:=xh p.m.L) (T:=kc (ka (xh p.m.L) p.c.qu)) (A1:=xW p.m.L 1) (A2:=xW p.m.L 2) (A3:=xW p.m.L 3) (A4:=p.m.Gl.length) (fun V a=>Jd (h.later a).mill h.sim.ok (by omega) (by omega)) (fun V a=>?_)).mono ?_
 ·have u:=h.sim.len;have v:=h.sim.glen;have x:=h.sim.plen;refine(zjY (h.later a).ref h.sim.hokr (by omega) (by omega) (by omega) h.sim.nu (by omega)).mono fun e t ⟨d,l⟩=>⟨?_,l⟩;rw[d,f,j,i,h.sim.tie.now,h.sim.epo]
 ·rintro e w' ⟨d,Z,g,cap,rfl,a,b,n⟩;obtain⟨s,a1,a2,a3,a4,a5,a6,a7⟩:=h.asked (h.later a) a.size n b;exact⟨d,s,a1,a2,a3,by rw[a4];omega,by rw[a5];omega,a6,((zj.of_below a).trans a7 (fun k _ e=> .inr (.inl e)))⟩
theorem zpY(p:PD)(h:p.at w)(wb:Nat)(o:Ops):
  Calls prog 81 #[(O wb),(O p.po),.agg (oZz 4 o)] w fun e w'=>e=.returned (.bool true)/\yC p w w':=by
 have d:∀(Q1 Q2 Q3 Q4 s:Int),(∀V,B_ w V->Calls prog 57 #[(O p.i.x),I o.a,I o.b,I o.c] V fun e l=>e=.returned (.tuple #[.agg #[I Q1,I Q2,i_ Q3,i_ Q4],I s])/\B_ V l)->(∀V,B_ w V->Calls prog 144 #[(O p.r),I o.a,I o.b,I o.c] V fun e l=>e=.returned (.tuple #[.agg #[I Q1,I Q2,i_ Q3,i_ Q4],I s])/\B_ V l)->Calls prog 81 #[(O wb),(O p.po),.agg (oZz 4 o)] w fun e w'=>e=.returned (.bool true)/\yC p w w':=fun Q1 Q2 Q3 Q4 s u v=>by
  refine(zcN (wb:=wb) h.head h.may o u v).mono ?_;rintro e w' ⟨m,Z,g,cap,rfl,j,q,y⟩;obtain⟨z,a1,a2,a3,a4,a5,a6,a7⟩:=h.asked (h.later j) j.size y q;exact⟨m,z,a1,a2,a3,by rw[a4];omega,by rw[a5];omega,a6,((zj.of_below j).trans a7 (fun k _ e=> .inr (.inl e)))⟩
 have A:=h.sim.len;have B:=h.sim.glen;have C:=h.sim.plen;by_cases j:o.a< -1\/p.c.n<=o.a\/o.b<0\/4<=o.b\/o.c<0\/100000<o.c
 ·refine d 0 0 0 0 2 (fun V f=>zgd (h.later f).mill h.sim.ok o.a o.b o.c j) (fun V f=>?_);refine(Ju (h.later f).ref h.sim.hokr (by omega) (by omega) (by omega) h.sim.nu h.sim.time o.a o.b o.c).mono fun e l ⟨m,t⟩=>⟨?_,t⟩;rw[m,vR (by rw[h.sim.tie.hc];exact j)];rfl
 ·refine d _ _ _ _ _ (fun V f=>zgc (h.later f).mill h.sim.ok h.sim.sok.ok.now o.a o.b o.c (by omega) (by omega) (by omega)) (fun V f=>?_);refine(Ju (h.later f).ref h.sim.hokr (by omega) (by omega) (by omega) h.sim.nu h.sim.time o.a o.b o.c).mono fun e l ⟨m,t⟩=>⟨?_,t⟩;rw[m,h.sim.query (by rw[h.sim.tie.hc];exact j)];rfl
theorem zil{c:Cf}{ep:Int}{m:MS}{r:RM}(a:ql c ep m r){ts:List Tsk}(h:Xa m.TL ts):ts.flatMap (XM m.QL)=r.tg.flatMap tkV/\ts.length=r.tg.length:=by
 obtain⟨b,d,f,g⟩:=a.tsk;have e:ts=b:=h.one ⟨d,f⟩ (fun p i=>(a.sok.ok.tg p i).key) a.sok.ok.nt;subst e;rw[g,List.length_map,List.flatMap_map];exact⟨rfl,rfl⟩
theorem zqa(p:PD)(h:p.at w)(o:Ops)(n:w.1[wb]?=E (.cells #[pv,lv] 77 (0,0)))(d:ZZ B w lv kn q)(b:B<=wb)(m:q+1<=1099511627776):
  Calls prog 81 #[(O wb),(O p.po),.agg (oZz 9 o)] w fun e w'=>e=.returned (.bool true)/\JH B w wb p.po p.r pv lv q w':=by
 have u:=h.sim.klen;refine(zft h.head h.may o (ts:=p.rm.tg) (by omega) n d b m (fun V c=>?_) (fun V c=>zjE (h.later c).ref (by omega))).mono fun e w' l=>l;refine(ziJ (h.later c).mill h.sim.sok.ok.jobs (by have:=h.sim.sok.ok.t800 h.sim.ok;omega)).mono ?_;rintro e t ⟨ts,a,cap,k,i,f,j⟩;obtain⟨s,g⟩:=zil h.sim k;refine⟨_,i,?_,j⟩;rw[s,g]at f;rw[g];exact f
def zhj(t:TypeId):Prop:=t=77\/t=134\/t=55\/t=51
theorem PD.at.not_law(h:p.at w){cs:Array P}{t:TypeId}(g:w.1[k]?=E (.cells cs t (0,0)))(i:zhj t):¬p.foot k:=fun a=>by
 have no:∀c d,w.1[k]?=E (.cells c d (0,0))->¬zhj d->False:=fun c d b n=>by
  rw[g]at b;injection b with b;injection b with _ b;exact n (b▸i)
 have row:∀{B size n:Nat} {e:TypeId} {v:P} {xs:List P},w.ownsRow B e size v n xs->v.ownBlock=E k->¬zhj e->False:=fun m hv n=>by
  obtain⟨j,l⟩:=zG m hv;exact no _ _ l n
 rcases a with a|a|a|a|a|a
 ·refine h.mill.tag g ?_ (h.mft.1 a);rcases i with rfl|rfl|rfl|rfl<;>decide
 ·subst a;have f:=h.head;unfold zL at f;exact no _ _ f (by unfold zhj;decide)
 ·exact a.elim
 ·exact row h.may a (by unfold zhj;decide)
 ·exact row h.told a (by unfold zhj;decide)
 ·rcases a with a|a|a|a|a|a
  ·subst a;exact no _ _ h.ref.head (by unfold zhj;decide)
  ·exact row h.ref.trow a (by unfold zhj;decide)
  ·exact row h.ref.nrow a (by unfold zhj;decide)
  ·exact row h.ref.prow a (by unfold zhj;decide)
  ·exact row h.ref.grow a (by unfold zhj;decide)
  ·exact row h.ref.krow a (by unfold zhj;decide)
theorem PD.at.ntab(h:p.at w):¬p.foot Qt:=fun e=>e.elim (fun e=>h.mill.tn _ (h.mft.1 e) rfl) (fun e=>h.nt _ e rfl)
theorem ZZ.kept{f:Nat->Prop}(h:ZZ B w lv kn q)(e:zj f w w')(hn:∀k cs t,w.1[k]?=E (.cells cs t (0,0))->(t=55\/t=51)->¬f k):ZZ B w' lv kn q:=
 ⟨zi h.row e (fun k b=>by obtain⟨a,c⟩:=zG h.row b;exact hn _ _ _ c (.inl rfl)),h.four,fun j v i=>by
  obtain⟨n,g,d⟩:=h.marks j v i;exact⟨n,g,zi d e (fun k b=>by obtain⟨a,c⟩:=zG d b;exact hn _ _ _ c (.inr rfl))⟩⟩
structure Inv(B:Nat)(w:D)(wb:Nat)(pv lv:P)(ps:List PD)(kn:List P)(q:Nat):Prop where
 head:w.1[wb]?=E (.cells #[pv,lv] 77 (0,0))
 row:w.ownsRow B 134 1 pv (ps.map PD.po).length ((ps.map PD.po).map (fun q=>(O q)))
 lists:ZZ B w lv kn q
 all:∀p∈ps,p.at w/\(∀k,p.foot k->B<=k)/\p.ep=1
 apart:ps.Pairwise (fun p q=>∀k,p.foot k->¬q.foot k)
 tb:Qt<B/\B<=wb
theorem Inv.later(h:Inv B w wb pv lv ps kn q)(a:B_ w w'):Inv B w' wb pv lv ps kn q:=
 ⟨(a.block wb (zd h.head)).trans h.head,zi h.row (zj.of_below (f:=fun _=>False) a) (fun _ _ c=>c),h.lists.later a,fun p b=>⟨(h.all p b).1.later a,(h.all p b).2⟩,h.apart,h.tb⟩
theorem Inv.upd{j:PD}(h:Inv B w wb pv lv (l1++p::l2) kn q){S:Nat}(v:B<=S)(r:∀z∈l1++p::l2,∀k,z.foot k->k<S)(o:j.at w')(F:j.po=p.po)(A:j.ep=p.ep)(g:∀k,j.foot k->p.foot k\/S<=k)(m:zj p.foot w w'):Inv B w' wb pv lv (l1++j::l2) kn q:=by
 have i:=h.all p (by simp);have l:=h.apart;rw[List.pairwise_append,List.pairwise_cons]at l;obtain⟨a1,⟨a2,a3⟩,a4⟩:=l;have u:(l1++j::l2).map PD.po=(l1++p::l2).map PD.po:=by simp[F]
 refine⟨m.heap h.head (i.1.not_law h.head (.inl rfl)),?_,?_,?_,?_,h.tb⟩
 ·rw[u];exact zi h.row m (fun k x=>by obtain⟨s,n⟩:=zG h.row x;exact i.1.not_law n (.inr (.inl rfl)))
 ·exact h.lists.kept m (fun k cs t n G=>i.1.not_law n (G.elim (fun e=> .inr (.inr (.inl e))) (fun e=> .inr (.inr (.inr e)))))
 ·intro z a;rcases List.mem_append.1 a with a|a
  ·have f:=h.all z (by simp[a]);exact⟨f.1.kept m (fun k g=>a4 z a p (by simp) k g) i.1.ntab,f.2⟩
  ·rcases List.mem_cons.1 a with rfl|a
   ·refine⟨o,fun k b=>?_,A.trans i.2.2⟩;rcases g k b with b|b
    ·exact i.2.1 k b
    ·omega
   ·have f:=h.all z (by simp[a]);exact⟨f.1.kept m (fun k g C=>a2 z a k C g) i.1.ntab,f.2⟩
 ·rw[List.pairwise_append,List.pairwise_cons];refine⟨a1,⟨fun z a k c d=>?_,a3⟩,fun z a y f=>?_⟩
  ·have:=r z (by simp[a]) k d;rcases g k c with b|b
   ·exact a2 z a k b d
   ·omega
  ·rcases List.mem_cons.1 f with rfl|f
   ·intro k c d;have:=r z (by simp[a]) k c;rcases g k d with b|b
    ·exact a4 z a p (by simp) k c b
    ·omega
   ·exact a4 z a y (by simp[f])
theorem Inv.more(h:Inv B w wb pv lv ps kn q)(R:B<=w.1.size)(J:zeI w wb B pv lv (ps.map PD.po) w'):∃p d,Inv B w' wb d lv (ps++[p]) kn q/\p.th=[]/\p.m.num=0/\zj (fun k=>k=wb\/pv.ownBlock=E k) w w':=by
 obtain⟨p,d,v,x,A,C,F,G,s,j,O⟩:=J;have f:∀k,k=wb\/pv.ownBlock=E k->∃cs t,w.1[k]?=E (.cells cs t (0,0))/\(t=77\/t=134):=fun k e=>by
  rcases e with rfl|e
  ·exact⟨_,_,h.head,.inl rfl⟩
  ·obtain⟨u,l⟩:=zG h.row e;exact⟨_,_,l,.inr rfl⟩
 refine⟨p,d,⟨F,by simpa using G,h.lists.kept j (fun k cs t l K e=>?_),fun z c=>?_,?_,h.tb⟩,A,by rw[x],j⟩
 ·obtain⟨i,L,a,b⟩:=f k e;rw[l]at a;injection a with a;injection a with _ a;subst a;rcases K with rfl|rfl<;>rcases b with r|r<;>exact absurd r (by decide)
 ·rcases List.mem_append.1 c with c|c
  ·have g:=h.all z c;refine⟨g.1.kept j (fun k H e=>?_) (fun e=>e.elim (fun e=>by have:=h.tb;omega) (fun e=>by have:=Z0 h.row e;have:=h.tb;omega)),g.2⟩;obtain⟨i,L,a,b⟩:=f k e;exact g.1.not_law a (b.elim .inl (fun e=> .inr (.inl e))) H
  ·obtain rfl:=List.mem_singleton.1 c;exact⟨v,fun k I=>by have:=s k I;omega,C⟩
 ·rw[List.pairwise_append];refine⟨h.apart,List.pairwise_singleton _ _,fun z c y g k n o=>?_⟩;obtain rfl:=List.mem_singleton.1 g;have:=(h.all z c).1.foot_lt k n;have:=s k o;omega
theorem Inv.ask(h:Inv B w wb pv lv (l1++p::l2) kn q)(H:B<=w.1.size)(K:JH B w wb p.po p.r pv lv q w'):∃l c b,Inv B w' wb pv c (l1++l::l2) b (q+1)/\l.th=p.th/\l.m=p.m/\zj (fun k=>k=wb\/lv.ownBlock=E k\/k=p.po) w w':=by
 obtain⟨c,b,Z,g,cap,rfl,A,C,n,O,F,G⟩:=K;have i:∀k,k=wb\/lv.ownBlock=E k->∃cs t,w.1[k]?=E (.cells cs t (0,0))/\(t=77\/t=55):=fun k e=>by
  rcases e with rfl|e
  ·exact⟨_,_,h.head,.inl rfl⟩
  ·obtain⟨u,v⟩:=zG h.lists.row e;exact⟨_,_,v,.inr rfl⟩
 have j:∀z∈l1++p::l2,z.at Z:=fun z j=>(h.all z j).1.kept n (fun k x e=>by
  obtain⟨s,L,a,f⟩:=i k e;exact(h.all z j).1.not_law a (f.elim .inl (fun e=> .inr (.inr (.inl e)))) x) (fun e=>e.elim (fun e=>by have:=h.tb;omega) (fun e=>by have:=Z0 h.lists.row e;have:=h.tb;omega))
 have I:Inv B Z wb pv c (l1++p::l2) b (q+1):=by
  refine⟨C,zi h.row n (fun k J e=>?_),A,fun z o=>⟨j z o,(h.all z o).2⟩,h.apart,h.tb⟩;obtain⟨s,L,a,f⟩:=i k e;obtain⟨u,v⟩:=zG h.row J;rw[v]at a;injection a with a;injection a with _ a;subst a;rcases f with y|y<;>exact absurd y (by decide)
 have d:p∈l1++p::l2:=by simp
 obtain⟨l,a1,a2,a3,a4,a5,a6,a7⟩:=(h.all p d).1.asked (j p d) n.size G F;exact⟨l,c,b,I.upd H (fun z o k x=>(h.all z o).1.foot_lt k x) a1 a2 a3 a6 (a7.mono (fun k _ e=> .inr (.inl e))),a4,a5,(n.mono (fun k _ e=>e.elim .inl (fun e=> .inr (.inl e)))).trans a7 (fun k _ e=> .inr (.inr e))⟩
def Qz(w:D)(k:Nat)(W:D):Prop:=∃pv lv ps kn q,Inv w.1.size W w.1.size pv lv ps kn q/\ps.length<=k/\q<=k/\(∀p∈ps,p.th.length<=k/\p.m.num<=(k:Int))/\B_ w W
theorem znE(h:p.at w):w.cell? (U p.po 14)=E (.bool false):=by
 have a:=h.head;unfold zL at a;rw[xd a];rfl
theorem zpn{a:Nat}(h:W.1[a]?=E (.cells #[I (-1),I 1,I 0] 80 (0,0))):TS W (E (U a 0)) 1 (fun _=> -1) (fun _=>1) (fun _=>0):=fun _=>by
 refine⟨a,0,rfl,zd h,fun i b=>?_⟩;obtain rfl:i=0:=by omega
 exact⟨by rw[xd h];rfl,by rw[xd h];rfl,by rw[xd h];rfl⟩
theorem zce:xR 1 1 0 1 0 9 1 (fun _=> -1) (fun _=>1) (fun _=>0)=true:=by decide
theorem Qz.later{W':D}(h:Qz w k W)(a:B_ W W'):Qz w k W':=by
 obtain⟨pv,lv,ps,kn,q,c,d,e,f,b⟩:=h;exact⟨pv,lv,ps,kn,q,c.later a,d,e,f,b.trans (a.mono b.size)⟩
theorem Qz.next(h:Qz w k W):Qz w (k+1) W:=by
 obtain⟨pv,lv,ps,kn,q,a,e,f,d,b⟩:=h;exact⟨pv,lv,ps,kn,q,a,by omega,by omega,fun p c=>by have:=d p c;omega,b⟩
theorem zey(h:Inv w.1.size W w.1.size pv lv (l1++p::l2) kn q)(f:(l1++p::l2).length<=k)(o:q<=k)(c:∀z∈l1++p::l2,z.th.length<=k/\z.m.num<=(k:Int))(b:B_ w W)(i:yC p W w'):Qz w (k+1) w':=by
 obtain⟨n,a1,a2,a3,a4,a5,a6,a7⟩:=i;have g:=h.all p (by simp);have l:=c p (by simp);refine⟨pv,lv,l1++n::l2,kn,q,h.upd b.size (fun z a k d=>(h.all z a).1.foot_lt k d) a1 a2 a3 a6 a7,by simp at f ⊢;omega,by omega,fun z a=>?_,b.trans (a7.below b.size (fun j e=>g.2.1 j e))⟩;rcases List.mem_append.1 a with a|a
 ·have:=c z (by simp[a]);omega
 ·rcases List.mem_cons.1 a with rfl|a
  ·omega
  ·have:=c z (by simp[a]);omega
theorem zlk(h:Inv w.1.size W w.1.size pv lv (l1++p::l2) kn q)(o:(l1++p::l2).length<=k)(x:q<=k)(c:∀z∈l1++p::l2,z.th.length<=k/\z.m.num<=(k:Int))(b:B_ w W)(t:JH w.1.size W w.1.size p.po p.r pv lv q w'):Qz w (k+1) w':=by
 obtain⟨v,f,d,l,g,i,n⟩:=h.ask b.size t;have s:=h.all p (by simp);have u:=c p (by simp);refine⟨pv,f,l1++v::l2,d,q+1,l,by simp at o ⊢;omega,by omega,fun z a=>?_,b.trans (n.below b.size (fun j e=>?_))⟩
 ·rcases List.mem_append.1 a with a|a
  ·have:=c z (by simp[a]);omega
  ·rcases List.mem_cons.1 a with rfl|a
   ·rw[g,i];omega
   ·have:=c z (by simp[a]);omega
 ·rcases e with rfl|e|rfl
  ·exact Q _
  ·exact Z0 h.lists.row e
  ·exact s.2.1 _ (.inr (.inl rfl))
theorem zfI(o:Ops)(y:o.fits)(F g K:Nat->Int)(d:Yz w)(m:TS w o.fa o.fn F g K)(C:k+1<=1099511627776)(r:Qz w k W):
  Calls prog 33 #[(O w.1.size),.agg #[I o.fs,I o.fg,I o.fe,I o.fw,I o.fk,I o.fq,.slice o.fa o.fn o.fp],I (-1)] W fun e w'=>e=.returned (.bool true)/\Qz w (k+1) w':=by
 have i:=r;obtain⟨pv,lv,ps,kn,q,b,G,H,B,a⟩:=r;have c:=m.below a;cases l:xR o.fs o.fg o.fe o.fw o.fk o.fq o.fn F g K with
 |false=>
  exact(zgm ⟨o.fs,o.fg,o.fe,o.fw,o.fk,o.fq,o.fn,F,g,K⟩ y.size l o.fa o.fp w.1.size W c).mono fun e w' ⟨h,s⟩=>⟨h,(i.later s).next⟩
 |true=>
  refine(KN ⟨o.fs,o.fg,o.fe,o.fw,o.fk,o.fq,o.fn,F,g,K⟩ (zaz l) l o.fa o.fp w.1.size W c (Yt d a) b.head a.size b.tb b.row (by simp[maxLen];omega) (by simp;omega)).mono ?_;rintro e w' ⟨h,A⟩;obtain⟨p,n,t,u,v,x⟩:=b.more a.size A;refine⟨h,n,lv,ps++[p],kn,q,t,by simp;omega,by omega,fun z f=>?_,a.trans (x.below a.size (fun j e=>?_))⟩
  ·rcases List.mem_append.1 f with f|f
   ·have:=B z f;omega
   ·obtain rfl:=List.mem_singleton.1 f;rw[u,v];simp;omega
  ·rcases e with rfl|e
   ·exact Q _
   ·exact Z0 b.row e
theorem zec(w:D)(l:Yz w)(n:Nat)(G:Nat->Ops)(T:Nat->(Nat->Int)×(Nat->Int)×(Nat->Int))(la:Int)(a3:la<=9)(hn:n<=1099511627776)(hT:∀i,i<n->TS w (G i).fa (G i).fn (T i).1 (T i).2.1 (T i).2.2)(hG:∀i,i<n->(G i).fits):
  zpa w n G la (Qz w) where
 low:=fun k W ⟨_,_,_,_,_,_,_,_,_,h⟩=>h
 looks:=fun k W J ⟨pv,lv,ps,kn,q,u,R,S,C,x⟩=>zfW u.head u.lists (by omega)
 later:=fun k W W' h V=>h.later V
 next:=fun k W h=>h.next
 start:=fun W x hw=>⟨_,_,[],[],0,⟨hw,World.ownsRow_nil _ _ _ _,⟨World.ownsRow_nil _ _ _ _,rfl,fun j v hj=>by simp at hj⟩,(fun p A=>by cases A),List.Pairwise.nil,⟨l.lt,Q _⟩⟩,Q _,Q _,(fun p A=>by cases A),x⟩
 fst:=fun W ta x hw C=>by
  refine(KN ⟨1,1,0,1,0,9,1,fun _=> -1,fun _=>1,fun _=>0⟩ (zaz zce) zce (E (U ta 0)) 1 w.1.size W (zpn C) (Yt l x) (ps:=[]) hw x.size ⟨l.lt,Q _⟩ (World.ownsRow_nil _ _ _ _) (by simp[maxLen]) (by simp)).mono ?_;rintro e w' ⟨f,p,a6,F,h2,h3,y,h5,h6,h7,h8,h9⟩;obtain⟨pa,pc,rfl⟩:=zq h6;refine⟨f,x.trans (h8.below x.size (fun j e=>?_)),pa,pc,h5⟩;rcases e with rfl|e
  ·exact Q _
  ·cases e
 opens:=fun k W J F O=>by
  rw[F];refine zqu (G k) _ (fun r o=>?_);exact zfI (G k) (hG k J) _ _ _ l (hT k J) (by omega) (O.later o)
 steps:=fun k W J F a4 O=>by
  have H:=O;obtain⟨pv,lv,ps,kn,q,u,R,S,C,x⟩:=O;have b:=hG k J;have s:(⟨(G k).te,(G k).tn⟩:Tok).wf:=⟨b.te,b.tn⟩;by_cases h0:ps=[]
  ·subst h0;have a2:=u;obtain⟨pa,pc,L⟩:=zq u.row;simp at L;subst L;exact(zmq u.head (G k) (G k).kd F (by omega)).mono fun e w' ⟨f,d⟩=>⟨f,(H.later d).next⟩
  ·have K:0<ps.length:=List.length_pos_iff.2 h0;obtain⟨i,hi,a0⟩:=zjg (G k).on (ps.map PD.po).length b.on (by simpa using K);have I:i<ps.length:=(by simpa using hi);have Z:(ps.map PD.po)[i]?=E ps[i].po:=(by simp[I]);have t:ps[i]∈ps:=List.getElem_mem I;generalize ps[i]=p at*;obtain⟨l1,l2,rfl⟩:=List.append_of_mem t;have A:=u.all p t;have X:=znE A.1;have a1:=zd A.1.head;have a5:=C p t;have z:∀r,B_ W r->Inv w.1.size r w.1.size pv lv (l1++p::l2) kn q/\B_ w r/\p.at r:=fun r y=>⟨u.later y,x.trans (y.mono x.size),A.1.later y⟩;refine zoz u.head u.row Z a1 X (G k) a0 (Qz w (k+1)) (G k).kd F (by omega) (fun c r y=>?_) (fun c r y=>?_) (fun w' V=>(H.later V).next)
   ·obtain⟨m,o,g⟩:=z r y;have B:=fun(w':D) (d:yC p r w')=>zey m R S C o d;rcases c with c|c|c|c|c<;>rw[c]
    ·exact(zqc p g (G k) b.a s (by omega) b.v).mono fun e w' ⟨f,d⟩=>⟨f,B w' d⟩
    ·exact(zqd p g (G k) b.a s (by omega)).mono fun e w' ⟨f,d⟩=>⟨f,B w' d⟩
    ·exact(zqe p g (G k) b.a s (by omega) (by omega) A.2.2 (by omega)).mono fun e w' ⟨f,d⟩=>⟨f,B w' d⟩
    ·exact(zqf p g (G k) b.a s (by omega)).mono fun e w' ⟨f,d⟩=>⟨f,B w' d⟩
    ·exact(zqg p g (G k) b.a s (by omega)).mono fun e w' ⟨f,d⟩=>⟨f,B w' d⟩
   ·obtain⟨m,o,g⟩:=z r y;have B:=fun(w':D) (d:yC p r w')=>zey m R S C o d;rcases c with c|c|c<;>rw[c]
    ·exact(zpY p g _ (G k)).mono fun e w' ⟨f,d⟩=>⟨f,B w' d⟩
    ·exact(zpZ p g _ (G k)).mono fun e w' ⟨f,d⟩=>⟨f,B w' d⟩
    ·exact(zqa p g (G k) m.head m.lists (Q _) (by omega)).mono fun e w' ⟨f,d⟩=>⟨f,zlk m R S C o d⟩
theorem zkE(a:Option Addr)(n cap:Nat)(G:Nat->Ops)(T:Nat->(Nat->Int)×(Nat->Int)×(Nat->Int))(w:D)(b:Yz w)(h:OS w a n G)(hn:n<=1099511627776)(d:∀i,i<n->TS w (G i).fa (G i).fn (T i).1 (T i).2.1 (T i).2.2)(c:∀i,i<n->(G i).fits):
  Calls prog 4 #[.slice a n cap] w (Rz w (.bool true)):=by
 have f:=ze (zjk a n cap G 9 (by omega) w h hn _ (zec w b n G T 9 (by omega) hn d c));clear h hn d c b;go_in;go_wp2_with(first|(go_at_call 11;refine f.mono ?_;rintro e w' ⟨rfl,g⟩)|fail);go_ret;exact⟨rfl,g⟩
end
section
open Go.ChangeShapes Go.WideShapes Go.ChangeAt Go.RowKit
theorem zmF:ownKnob prog.godebug=N:=by kernel_rfl
theorem zcz:laidOutB prog=true:=by kernel_rfl
theorem zea(os:Os)(c:os.Started)(H:Type)(enc:TypeId×P->H):
  ReturnsInHanded {} Tryz.checked os 4 .any (fun w args=>(Rows.worksSpec.pre enc prog Tryz.f4 [] false w args/\laidMetH prog zmS w)/\sizedMet enc prog Tryz.f4 (OpenSpec.ofChange Rows.worksSpec) false w args) (Rows.worksSpec.post enc prog Tryz.f4 false true false false):=by
 refine returnsInHanded_of_change_and (C:=Tryz.checked) (X:=fun w _=>laidMetH prog zmS w) (fun _ _ _ hh h=>h.of_heap hh) zmF c (by kernel_rfl) func4
  (ChangeSpec.witness_shaped (enc:=enc) (C:=Tryz.checked) (os:=os) (X:=fun w _=>laidMetH prog zmS w) false (World.laidAll prog os zmS) #[.slice N 0 0] 8 (World.laidAll_os _ _ _)
   (World.shaped_of_ZipB (by kernel_rfl) (by kernel_rfl)) (by kernel_rfl) (by kernel_rfl) (by kernel_rfl) (znN os _)) ?_
 intro W base args F Z u b K L s k _;have f:∀(j:Nat) t v,Tryz.f4.params[j]?=E t->args[j]?=E v->Value.okWide prog W .any base t v:=b;have r:(DataW.weightsEach prog (Tryz.f4.params.toList++Rows.worksSpec.plain.varTypes prog) (F++Z)).all (· <=reachBytes)=true:=s;have z:=K;obtain⟨p,q,i,hV,rfl,a1,a2⟩:=K;have J:DataW.TrodAll enc prog W 0 (fun _=>true) true Tryz.f4.params.toList args.toList F p:=i;rw[params4]at J f r;obtain⟨v0,a3,U,V,S,q0,A,rfl,rfl,I,r0⟩:=trodAll_cons J;obtain⟨rfl,rfl,rfl⟩:=trodAll_nil r0;obtain rfl:args=#[v0]:=by cases args;simp_all
 obtain⟨rfl,rfl⟩:=trodVars_none hV;obtain⟨a0,g,d,rfl⟩:=okWide_slice underlying22 (f 0 22 v0 rfl rfl);have R:=I;have B:∀x∈S,x.block<W.1.size:=by obtain⟨m,hm⟩:=R;exact DataW.trod_lt m _ _ _ hm
 obtain⟨fuel,O⟩:=I;have o:DataW.trod enc prog W 0 (fun _=>true) true fuel 22 [.slice a0 g d]=E (U,S):=by simpa[Value.cells]using O
 obtain⟨a,n,cap,G,T,l,has,hn,hT,hG⟩:=zlN o (fun y hy=>by
  have:=List.all_eq_true.1 r y (DataW.weights_mem_each (j:=0) rfl rfl y hy);simpa using this)
 simp at l;obtain⟨rfl,rfl,rfl⟩:=l;clear i b O o;refine(zkE a0 g d G T W (zdT k) has hn hT hG).mono fun e W' ⟨he,bel⟩=>?_;subst he;exact⟨_,rfl,_,_,_,[],_,[],z,trodAll_mk1 (shut_bool underlying4 _),(trodAll_cons_mk (Below.trod zcz (by kernel_rfl) (of_decide_eq_true (by kernel_rfl)) R bel B) trodAll_mk0),rfl,bel.frame _,fun h=>by cases h⟩
theorem zeb:Rows.WorksSaid:=
 OpenClaim.holds_of_wide 4 Tryz.f4 rfl rfl rfl rfl rfl rfl rfl ⟨rfl,rfl,rfl,rfl,rfl⟩ rfl rfl rfl rfl rfl (by kernel_rfl) func4 zdZ
  (of_decide_eq_true (by kernel_rfl)) (by unfold Func.isWrapper;first|(rw[if_pos (by decide+kernel)];kernel_rfl)|(rw[if_neg (by decide+kernel)];exact⟨rfl,rfl⟩))
  (fun os a H enc _=>zea os a H enc)
theorem worksCard_holds:Rows.WorksCardSaid:=
 Claim7.holds_tied_plain_at .later [] [.data,.data,.data,.sentinel,.sentinel,.listed,.data] true (true, "e4703e471f700b14ef4f5b2136a5b11b72e3551741bf1531b3f191eeb70a92c1") true
  zeb (fun _ h=>by cases h) (by kernel_rfl) (fun _ h=>by cases h) works_row_tie rfl ⟨rfl,rfl⟩ (by kernel_rfl) rfl
  (fun f fn d b=>by
   obtain rfl:f=4:=Option.some.inj ((show prog.funcNamed "mill/milllaw.Works" =E 4 by kernel_rfl).symm.trans d)|>.symm;obtain rfl:fn=Tryz.f4:=(Option.some.inj (func4.symm.trans b)).symm;exact⟨by kernel_rfl,fun j t c=>by
    rw[params4]at c;have e:t∈[22]:=(by simpa using Array.mem_of_getElem? c);have a:([22].all fun u=>!prog.wantsStandIn u)=true:=(by kernel_rfl);exact(show prog.wantsStandIn t=false by simpa using List.all_eq_true.1 a t e)⟩)
  (by kernel_rfl)
#print axioms worksCard_holds
