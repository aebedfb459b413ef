import Derived.Test.YtndhpgciopcncaaGreatDoorXKpk0
open Go.RowKit renaming Below → J
open Go.RowKit.Below renaming refl → K
open Nat renaming le_refl → E
set_option linter.unusedVariables false
set_option maxRecDepth 8000
set_option maxHeartbeats 8000000
open Go.Proofs.Tryz
namespace Go.Proofs.YtndhpgciopcncaaGreatDoor
open Go.RowKit
variable {ps:List Nat} {B cap i po wb:Nat} {lv:Value} {w:World}
theorem zpI{e:TypeId}{g:Nat}(h:w.ownsRow B e 1 (.slice (some (U g 0)) ps.length cap) ps.length (ps.map (fun q=>(O q))))(a:ps[i]?=some po):w.cell? (U g i)=some (O po):=by
 have b:i<ps.length:=(List.getElem?_eq_some_iff.1 a).1;rw[h.cellAt i (by simpa using b)];simp[a]
theorem zmq{a:Option Addr}(g:w.1[wb]?=some (.cells #[.slice a 0 cap,lv] 77 (0,0)))(o:Ops)(c:Int)(k:¬c=1)(j:¬c=13):
  Calls prog 34 #[(O wb),.agg (oZz c o)] w (Rz w (.bool true)):=by
 have h:=zd g;have b:B_ w (w.alloc (.cells (oZz c o) 82)):=(K _ _).alloc (E _) _;have d:=zo w (.cells (oZz c o) 82);have f:(w.alloc (.cells (oZz c o) 82)).1.size=w.1.size+1:=zE w _;have e:=(b.block wb h).trans g;have i:=ze b;obtain⟨z0,-⟩:=zc e;obtain⟨l,-⟩:=zc d;clear b d f e g;go_in;go_wp2_with fail;go_ret;exact⟨rfl,i⟩
theorem zqu(o:Ops)(R:World->Prop)(g:∀h,B_ w h->Calls prog 33 #[(O wb),.agg #[I o.fs,I o.fg,I o.fe,I o.fw,I o.fk,I o.fq,.slice o.fa o.fn o.fp],I (-1)] h fun e w'=>e=.returned (.bool true)/\R w'):
  Calls prog 34 #[(O wb),.agg #[I 1,I o.on,I (-1),I o.b,I o.c,i_ o.v,I o.te,I o.tn,I o.fs,I o.fg,I o.fe,I o.fw,I o.fk,I o.fq,.slice o.fa o.fn o.fp]] w fun e w'=>e=.returned (.bool true)/\R w':=by
 have a:B_ w (w.alloc (.cells #[I 1,I o.on,I (-1),I o.b,I o.c,i_ o.v,I o.te,I o.tn,I o.fs,I o.fg,I o.fe,I o.fw,I o.fk,I o.fq,.slice o.fa o.fn o.fp] 82)):=(K _ _).alloc (E _) _;have d:=zo w (.cells #[I 1,I o.on,I (-1),I o.b,I o.c,i_ o.v,I o.te,I o.tn,I o.fs,I o.fg,I o.fe,I o.fw,I o.fk,I o.fq,.slice o.fa o.fn o.fp] 82);have f:=ze (g _ a);obtain⟨a0,-,a2,-,-,-,-,-,p,a9,i,j,k,l,m,-⟩:=zc d;clear d a g;go_in;go_wp2_with fail;generalize(w.alloc (.cells #[I 1,I o.on,I (-1),I o.b,I o.c,i_ o.v,I o.te,I o.tn,I o.fs,I o.fg,I o.fe,I o.fw,I o.fk,I o.fq,.slice o.fa o.fn o.fp] 82))=X at*;go_wp2_with(first|(go_at_call 33;refine f.mono ?_;rintro e w' ⟨rfl,n⟩)|fail);go_ret;exact⟨rfl,n⟩
theorem zit(w:World)(g i:Nat)(v:Value):zj (fun k=>k=g) w (w.setCell (U g i) v):=zj.setCell (f:=fun k=>k=g) (zj.refl _ _) (p:=(U g i)) (fun _=>rfl) v
structure zpa(w:World)(n:Nat)(G:Nat->Ops)(la:Int)(Qz:Nat->World->Prop):Prop where
 low:∀k W,Qz k W->B_ w W
 looks:∀k W,k<=n->Qz k W->Calls prog 35 #[(O w.1.size)] W (Rz W (.bool true))
 later:∀k W W',Qz k W->B_ W W'->Qz k W'
 next:∀k W,Qz k W->Qz (k+1) W
 start:∀W,B_ w W->W.1[w.1.size]?=some (.cells #[.slice none 0 0,.slice none 0 0] 77 (0,0))->Qz 0 W
 fst:∀W ta,B_ w W->W.1[w.1.size]?=some (.cells #[.slice none 0 0,.slice none 0 0] 77 (0,0))->W.1[ta]?=some (.cells #[I (-1),I 1,I 0] 80 (0,0))->Calls prog 33 #[(O w.1.size),.agg #[I 1,I 1,I 0,I 1,I 0,I 9,.slice (some (U ta 0)) 1 1],I (-1)] W fun e w'=>e=.returned (.bool true)/\B_ w w'/\∃pa pc,w'.1[w.1.size]?=some (.cells #[.slice pa 1 pc,.slice none 0 0] 77 (0,0))
 opens:∀k W,k<n->(G k).kd=1->Qz k W->Calls prog 34 #[(O w.1.size),.agg #[I (G k).kd,I (G k).on,I (-1),I (G k).b,I (G k).c,i_ (G k).v,I (G k).te,I (G k).tn,I (G k).fs,I (G k).fg,I (G k).fe,I (G k).fw,I (G k).fk,I (G k).fq,.slice (G k).fa (G k).fn (G k).fp]] W fun e w'=>e=.returned (.bool true)/\Qz (k+1) w'
 steps:∀k W,k<n->¬(G k).kd=1->(G k).kd<=la->Qz k W->Calls prog 34 #[(O w.1.size),.agg #[I (G k).kd,I (G k).on,I (G k).a,I (G k).b,I (G k).c,i_ (G k).v,I (G k).te,I (G k).tn,I (G k).fs,I (G k).fg,I (G k).fe,I (G k).fw,I (G k).fk,I (G k).fq,.slice (G k).fa (G k).fn (G k).fp]] W fun e w'=>e=.returned (.bool true)/\Qz (k+1) w'
theorem zjk(a:Option Addr)(n cap:Nat)(G:Nat->Ops)(P:Int)(ae:P<10)(w:World)(h:OS w a n G)(hn:n<=1099511627776)(Qz:Nat->World->Prop)(HK:zpa w n G P Qz):
  Calls prog 11 #[.slice a n cap,I P] w (Rz w (.bool true)):=by
 have e1:((w.alloc zoY).alloc (.cells #[I (-1),I 1,I 0] 80)).1[w.1.size+1]?=some (.cells #[I (-1),I 1,I 0] 80 (0,0)):=by
  have h:=zo (w.alloc zoY) (.cells #[I (-1),I 1,I 0] 80);rw[zE]at h;exact h
 have b1:B_ w (w.alloc zoY):=(K _ _).alloc (E _) _;have b2:J (w.1.size+1) (w.alloc zoY) ((w.alloc zoY).alloc (.cells #[I (-1),I 1,I 0] 80)):=(K _ _).alloc (by rw[zE];omega) _;have e2:=(b2.block w.1.size (by omega)).trans (zo w zoY);have HF:=ze (HK.fst _ _ (b1.trans (b2.mono (by omega))) e2 e1);have l:=ze HK;have t:=ze h;clear e1 b1 b2 e2 HK h;go_in;go_wp2_with fail;refine HF.mono ?_;rintro e w1 ⟨rfl,u,pa,pc,m⟩;obtain⟨k0,-⟩:=zc m;have kf:∀j,w1.frozen? (U w.1.size j)=false:=fun j=>zI m j;have a2:=zd m;have O:Qz 0 (w1.setCell (U w.1.size 0) (.slice none 0 0)):=l.start _ ((zj.below (f:=fun k=>k=w.1.size) (zit w1 w.1.size 0 (.slice none 0 0)) u.size (fun k e=>by omega))|>u.trans) (xq (i:=0) m (.slice none 0 0));have Z:=ze O;have a9:=ze u;have aa:=ze m;clear O u m HF;go_wp2_with fail;go_loopw [6,7,8] (fun x y _ wr=>∃(k:Nat),k<=n/\x=.bool true/\y=I k/\Qz k wr) (fun _ y _ _=>n-(intOf y).toNat);case atStart=>exact⟨0,Nat.zero_le _,rfl,rfl,Z⟩
 case round=>
  obtain⟨k,hk,rfl,rfl,H⟩:=hrel;have d:=l.low k wr H;by_cases F:k<n
  ·obtain⟨b,off,rfl,g,hc⟩:=ud t (by omega);obtain⟨x0,x1,x2,x3,x4,x5,x6,x7,x8,x9,Q,R,S,T,V⟩:=hc k F;have X:=fun wz=>ze (l.opens k wz F);have Y:=fun wz=>ze (l.steps k wz F);generalize G k=o at*;have y0:=(d.cell (p:=(U b (off+k*15))) g).trans x0;have y1:=(d.cell (p:=(U b (off+k*15+1))) g).trans x1;have y2:=(d.cell (p:=(U b (off+k*15+2))) g).trans x2;have y3:=(d.cell (p:=(U b (off+k*15+3))) g).trans x3;have y4:=(d.cell (p:=(U b (off+k*15+4))) g).trans x4;have y5:=(d.cell (p:=(U b (off+k*15+5))) g).trans x5;have y6:=(d.cell (p:=(U b (off+k*15+6))) g).trans x6;have y7:=(d.cell (p:=(U b (off+k*15+7))) g).trans x7;have y8:=(d.cell (p:=(U b (off+k*15+8))) g).trans x8;have y9:=(d.cell (p:=(U b (off+k*15+9))) g).trans x9;have ak:=(d.cell (p:=(U b (off+k*15+10))) g).trans Q;have al:=(d.cell (p:=(U b (off+k*15+11))) g).trans R;have am:=(d.cell (p:=(U b (off+k*15+12))) g).trans S;have an:=(d.cell (p:=(U b (off+k*15+13))) g).trans T;have ao:=(d.cell (p:=(U b (off+k*15+14))) g).trans V;have ad:(k:Int)<n:=(by omega);have C:=(K wr.1.size wr).alloc (E _) (.cells (oZz o.kd o) 82);have z:=zo wr (.cells (oZz o.kd o) 82);obtain⟨z0,z1,z2,z3,z4,z5,z6,z7,z8,z9,ap,z11,aq,ar,au,-⟩:=zc z;have r:=l.later k wr _ H C;have s:=ze r;have L:=ze C;clear hc x0 x1 x2 x3 x4 x5 x6 x7 x8 x9 Q R S T V r C k0 kf a2;by_cases ac:P<o.kd
   ·have HN:=ze (l.next k _ s);clear H d X Y t l;go_wp2_with fail;go_roundw;case rel=>exact⟨k+1,by omega,rfl,by go_num,HN⟩
    case measure=>simp[intOf];omega
   ·have N:=fun W hh=>ze (l.looks (k+1) W (by omega) hh);have M:=fun W W' hh hl=>ze (l.later (k+1) W W' hh hl);by_cases D:o.kd=1
    ·have ab:=zI z;have r:=l.later k wr _ H ((K wr.1.size wr).alloc (E _) (.cells #[I o.kd,I o.on,I (-1),I o.b,I o.c,i_ o.v,I o.te,I o.tn,I o.fs,I o.fg,I o.fe,I o.fw,I o.fk,I o.fq,.slice o.fa o.fn o.fp] 82));have a0:=ze (ud (X _) D r);clear z H d X Y t r s L;obtain⟨kd,on,oa,ob,oc,ov,ai,aj,ah,a6,a5,a8,a4,a7,af,ag,a3⟩:=o;dsimp only at*;subst D;go_wp2_with(first
      |(go_at_call 34;refine a0.mono ?_;rintro e w5 ⟨rfl,q⟩)
      |(go_at_call 35;refine(N _ q).mono ?_;rintro e w6 ⟨rfl,B⟩))
     go_roundw;case rel=>exact⟨k+1,by omega,rfl,by go_num,ud (M _ _ q B)⟩
     case measure=>simp[intOf];omega
    ·have A:o.kd<=P:=(by omega);have a1:=ze (ud (Y _) D A s);clear z H d X Y t s L A;go_wp2_with(first
      |(go_at_call 34;refine a1.mono ?_;rintro e w5 ⟨rfl,q⟩)
      |(go_at_call 35;refine(N _ q).mono ?_;rintro e w6 ⟨rfl,B⟩))
     go_roundw;case rel=>exact⟨k+1,by omega,rfl,by go_num,ud (M _ _ q B)⟩
     case measure=>simp[intOf];omega
  ·go_wp2;go_ret;exact⟨rfl,d⟩
theorem zoz{pv:Value}(hw:w.1[wb]?=some (.cells #[pv,lv] 77 (0,0)))(m:w.ownsRow B 134 1 pv ps.length (ps.map (fun q=>(O q))))(s:ps[i]?=some po)(C:po<w.1.size)(z:w.cell? (U po 14)=some (.bool false))(o:Ops)(A:∀w:World,Calls prog 79 #[I o.on,I ps.length] w fun e w'=>e=.returned (I i)/\w'=w)(R:World->Prop)(a:Int)(k1:¬a=1)(l:a<=9)(HC:a=2\/a=3\/a=6\/a=7\/a=8->∀H,B_ w H->Calls prog 80 #[(O po),.agg (oZz a o)] H fun e w'=>e=.returned (.bool true)/\R w')(HA:a=4\/a=5\/a=9->∀H,B_ w H->Calls prog 81 #[(O wb),(O po),.agg (oZz a o)] H fun e w'=>e=.returned (.bool true)/\R w')(L:∀w',B_ w w'->R w'):
  Calls prog 34 #[(O wb),.agg (oZz a o)] w fun e w'=>e=.returned (.bool true)/\R w':=by
 obtain⟨pa,ad,rfl⟩:=zq m;have Y:i<ps.length:=(List.getElem?_eq_some_iff.1 s).1;obtain⟨gb,ab,V,_,y⟩:=m.form (by omega);cases V;have G:=zd hw;have d:B_ w (w.alloc (.cells (oZz a o) 82)):=(K _ _).alloc (E _) _;have r:=zo w (.cells (oZz a o) 82);have D:=zE w (.cells (oZz a o) 82);have F:=(d.block wb G).trans hw;have v:=zpI m s;have T:=((d.cell (p:=(U gb i)) y)).trans v;have x:=((d.cell (p:=(U po 14)) C)).trans z;have al:(i:Int)<(ps.length:Int):=by omega
 have ac:¬(ps.length:Int)=0:=by omega
 have HB:=ze d;have P:=fun W=>ze (A W);obtain⟨z0,-⟩:=zc F;obtain⟨y0,y1,-⟩:=zc r;have HL:=ze r;have ae:=ze D;have g:=ze HC;have f:=ze HA;have j:=ze l;have ap:¬a=13:=by omega
 clear m r d D hw F A z v s Y HC HA l;go_in;go_wp2_with fail;have q1:wb<w.1.size+1:=by omega
 have q2:gb<w.1.size+1:=by omega
 have q3:po<w.1.size+1:=by omega
 have q4:w.1.size<w.1.size+1:=by omega
 clear G y C;generalize(w.alloc (.cells (oZz a o) 82))=X at*;generalize w.1.size+1=N at*;have aa:Nonempty (zm N X):=zm.some _ _;have Z:=fun(u:zm N X) b o h=>u.cell b o h;refine zh N (by kernel_rfl) (by kernel_rfl) ?_;repeat(go_big_quiet_step (first|(go_at_call 79;exact Calls.later_same (P _))))
 refine wpQuiet_nil ?_;rintro⟨w1,k⟩;clear Z aa;have ak:=(k.cell (p:=(U po 14)) q3).trans x;have t:=(k.block w.1.size q4).trans HL;have c:B_ w w1:=HB.trans (k.mono (Nat.le_of_lt q4));obtain⟨a0,a1,a2,a3,a4,a5,a6,a7,a8,a9,af,ag,ah,ai,aj,-⟩:=zc t;dsimp only;clear t x T y0 y1 z0 k q1 q2 q3 q4;by_cases M:a=2\/a=3\/a=6\/a=7\/a=8
 ·have n:=ze (ud g M w1 c);clear g f L c j;rcases M with rfl|rfl|rfl|rfl|rfl<;>(go_wp2_with(first|(go_at_call 80;refine n.mono ?_;rintro e w' ⟨rfl,S⟩)|fail);go_ret;exact⟨rfl,S⟩)
 by_cases Q:a=4\/a=5\/a=9
 ·have n:=ze (ud f Q w1 c);clear g f L c j M;rcases Q with rfl|rfl|rfl<;>(go_wp2_with(first|(go_at_call 81;refine n.mono ?_;rintro e w' ⟨rfl,S⟩)|fail);go_ret;exact⟨rfl,S⟩)
 have l:=ud j;have HR:=ze (L w1 c);have k2:¬a=2:=by omega
 have k3:¬a=3:=by omega
 have k4:¬a=4:=by omega
 have k5:¬a=5:=by omega
 have k6:¬a=6:=by omega
 have k7:¬a=7:=by omega
 have k8:¬a=8:=by omega
 have k9:¬a=9:=by omega
 have am:¬a=10:=by omega
 have an:¬a=11:=by omega
 have ao:¬a=12:=by omega
 clear g f L c j M Q l;go_wp2_with fail;go_ret;exact⟨rfl,HR⟩
