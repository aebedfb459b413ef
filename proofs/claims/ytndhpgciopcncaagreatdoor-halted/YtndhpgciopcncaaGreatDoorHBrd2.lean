import Derived.Test.YtndhpgciopcncaaGreatDoorHBrd1
import Derived.Deep.RegionHeld3
import Derived.Test.YtndhpgciopcncaaGreatDoorHJn2
open Option renaming some → J
open Nat renaming le_refl → E
open Go.RowKit.Below renaming refl → S
open Option renaming none → A
open Go.RowKit renaming Below → D
open Go renaming World → G
open Nat renaming lt_of_lt_of_le → R
set_option linter.unusedVariables false
set_option maxRecDepth 20000
set_option maxHeartbeats 4000000
open Go.Proofs.Tryz
namespace Go.Proofs.YtndhpgciopcncaaGreatDoor
open Go.ChangeMaps (setBlock)
open Go.RowKit Go.Maps Go.Shelf
variable {es:Array MapEntry} {ep f ke la le n n' now num q qu r1 r2 r3 r4 r5 r6 rest se ti wi:Int} {L:LV} {cap cl k qb tb:Nat} {F F0 K K0 W W0:Nat->Int} {a:Option Addr} {v:SV} {s:Sg} {t:Tok} {tv:Value} {X w:G}
def Vt(k:Nat):Nat:=2^min k 5
theorem XD(k:Nat):1<=Vt k/\Vt k<=32:=by
 unfold Vt;have h:min k 5<=5:=Nat.min_le_right _ _;generalize min k 5=j at*
 match j,h with
 |0,_=>simp
 |1,_=>simp
 |2,_=>simp
 |3,_=>simp
 |4,_=>simp
 |5,_=>simp
theorem zqg(h:k<=5):((2:Int)^k<32↔k<5):=by
 match k,h with
 |0,_=>simp
 |1,_=>simp
 |2,_=>simp
 |3,_=>simp
 |4,_=>simp
 |5,_=>simp
theorem zqf(h:k<=5):1<=(2:Int)^k/\(2:Int)^k<=32:=by
 match k,h with
 |0,_=>simp
 |1,_=>simp
 |2,_=>simp
 |3,_=>simp
 |4,_=>simp
 |5,_=>simp
theorem zlR(ti:Nat)(m:ti<=1000000000000)(w:G):
  Calls prog 115 #[I ti] w fun e w'=>e=.returned (I (Vt ti))/\w'=w:=by
 go_enter func115,ntmps115;go_wp2_with fail;go_loopw [3,4] (fun x y wr=>∃(k:Nat),k<=5/\k<=ti/\x=I ((2:Int)^k)/\y=I k/\wr=w) (fun _ y _=>5-(intOf y).toNat);case atStart=>exact⟨0,by omega,Nat.zero_le _,by simp,rfl,rfl⟩
 case round=>
  obtain⟨k,a,h,rfl,rfl,rfl⟩:=hrel;obtain⟨i,j⟩:=zqf a;by_cases l:k<ti
  ·have f:(k:Int)<ti:=(by omega);by_cases g:k<5
   ·have b:(2:Int)^k<32:=(zqg a).2 g;have c:Hid ((2:Int)^k*2=2^(k+1)):=(by show(2:Int)^k*2=2^(k+1);rw[Int.pow_succ]);obtain⟨v,d⟩:∃v,(2:Int)^k=v:=⟨_,rfl⟩;rw[d]at c b i j ⊢;clear d;go_wp2_with fail;go_roundw;case rel=>exact⟨k+1,by omega,by omega,by rw[<-ud c],by go_num,trivial⟩
    case measure=>simp[intOf];omega
   ·obtain rfl:k=5:=(by omega);go_wp2_with fail;go_ret;refine⟨?_,rfl⟩;unfold Vt;rw[show min ti 5=5 by omega];rfl
  ·obtain rfl:k=ti:=(by omega);go_wp2_with fail;go_ret;refine⟨?_,rfl⟩;unfold Vt;rw[show min k 5=k by omega];simp
theorem zhX(x:Lse)(W:G):(Instr.field 164 (.agg (lZz x)) 0).run prog W=.ok (.agg #[I x.kd,I x.s.t,I x.s.sr,I x.s.wn]) W:=by kernel_rfl
variable {QL:List (Tok×Lse)} {g:Lse}
theorem JU(h:xi xJ X qb QL)(c:t.wf)(b:zE QL t=J g):(Instr.lookup 168 (.map (J qb)) (.agg #[I t.ep,I t.num]) false).run prog X=.ok (.agg (lZz g)) X:=by
 have a:=kK yx false h c;rw[b]at a;exact a
variable {TL:List (Jk×Tsk)} {x:Tsk}
theorem JW(h:xi qi X tb TL){k:Jk}(b:k.wf)(c:zE TL k=J x):(Instr.lookup 169 (.map (J tb)) (.agg #[I k.kd,I k.s.t,I k.s.sr,I k.s.wn]) false).run prog X=.ok (.agg (tZz x)) X:=by
 have a:=kK k8 false h b;rw[c]at a;exact a
def Tsk.failed(x:Tsk)(now:Int):Tsk:=⟨x.rl,x.s,x.se,x.ti+1,now+Vt (x.ti+1).toNat⟩
theorem zjD(h:xi qi X tb TL)(d:TL.length<maxLen){k:Jk}(c:k.wf)(x:Tsk)(b a:Int):
  ∃o,(Instr.mapUpdate 169 (.map (J tb)) (.agg #[I k.kd,I k.s.t,I k.s.sr,I k.s.wn]) (.agg #[(jZz x),I x.se,I b,I a])).run prog X=.ok () (setBlock X tb o)/\xi qi (setBlock X tb o) tb (qj TL k ⟨x.rl,x.s,x.se,b,a⟩)/\zi (fun k=>k=tb) X (setBlock X tb o)/\o.isCells=false:=
 jK k8 h d c (⟨x.rl,x.s,x.se,b,a⟩:Tsk)
theorem znS(h:xi xJ X qb QL)(g:t.wf)(c:TypeId):
  ∃o,(Builtin.delete_ #[168,49] c #[.map (J qb),.agg #[I t.ep,I t.num]]).run prog X=.ok (.tuple #[]) (setBlock X qb o)/\xi xJ (setBlock X qb o) qb (zT QL t)/\zi (fun k=>k=qb) X (setBlock X qb o):=by
 obtain⟨es,cl,b,f⟩:=h;obtain⟨a,d,e,i⟩:=YF yx b f g c;exact⟨.map a cl,d,⟨a,cl,xO (zd b) _,e⟩,xZ _⟩
theorem zkP(b:X.1[qb]?=J (.map es cl))(h:jd xJ es cl QL)(i:t.wf)(c:TypeId):
  ∃a,(Builtin.delete_ #[168,49] c #[.map (J qb),.agg #[I t.ep,I t.num]]).run prog X=.ok (.tuple #[]) (setBlock X qb (.map a cl))/\(setBlock X qb (.map a cl)).1[qb]?=J (.map a cl)/\jd xJ a cl (zT QL t)/\(∀e,e∈a.toList↔e∈es.toList/\e.key≠yB t)/\zi (fun k=>k=qb) X (setBlock X qb (.map a cl)):=by
 obtain⟨a,d,f,g⟩:=YF yx b h i c;exact⟨a,d,xO (zd b) _,f,g,xZ _⟩
variable {c:Cf}
theorem zei{b:Nat}(h:zC w b c tv ep num tb qb TL QL)(t:Tok)(ht:t.wf)(hg:zE QL t=J g)(a9:(⟨g.kd,g.s⟩:Jk).wf)(hx:zE TL ⟨g.kd,g.s⟩=J x)(now:Int)(aO:0<=now/\now<=100000)(aW:0<=x.ti/\x.ti<=1000000000)(aN:TL.length<=100000)(ad:w.1[qb]?=J (.map es cl))(ae:jd xJ es cl QL):
  Calls prog 56 #[(O b),.agg #[I t.ep,I t.num],I now] w fun e w'=>e=.returned (.tuple #[])/\zC w' b c tv ep num tb qb (qj TL ⟨g.kd,g.s⟩ (x.failed now)) (zT QL t)/\zi (fun k=>k=tb\/k=qb) w w'/\∃L,w'.1[qb]?=J (.map L cl)/\jd xJ L cl (zT QL t)/\∀e,e∈L.toList↔e∈es.toList/\e.key≠yB t:=by
 have au:=h.lt;have y0:=zq w (.cells #[I t.ep,I t.num] 49);have yz:=zM w (.cells #[I t.ep,I t.num] 49);have a:D w.1.size w (w.alloc (.cells #[I t.ep,I t.num] 49)):=(S _ _).alloc (E _) _;obtain⟨k0,k1,-⟩:=zc y0;have aJ:=(h.later a).cell10;have HL:=fun X hX=>JU (h.leases.later (w':=X) hX) ht hg;have g0:=HL _ a;have g1:=HL _ a.drew;have g2:=fun o=>HL _ (a.alloc a.size o);have g3:=fun o=>HL _ (a.alloc a.size o).drew;have g4:=fun o=>HL _ (a.drew.alloc a.drew.size o);have fl:=zhX g;have T:w.1.size<(w.alloc (.cells #[I t.ep,I t.num] 49)).1.size:=by rw[yz];omega
 have aM:b<(w.alloc (.cells #[I t.ep,I t.num] 49)).1.size:=by rw[yz];omega
 have H:=ze h;have Y0:=ze y0;have a2:=ze a;have HT:=ze ht;have a3:=ze a9;have HG:=ze hg;have HX:=ze hx;have a7:=ze ad;have al:=ze ae;clear h y0 yz a HL ht a9 hg hx ad ae;go_enter func56,ntmps56;go_wp2_with fail;generalize(w.alloc (.cells #[I t.ep,I t.num] 49))=X at*;go_region
 have N:D X.1.size X (X.alloc (.cells #[I g.kd,I g.s.t,I g.s.sr,I g.s.wn] 162)).drew:=((S _ _).alloc (E _) _).drew;have Q:(X.alloc (.cells #[I g.kd,I g.s.t,I g.s.sr,I g.s.wn] 162)).drew.1[X.1.size]?=J (.cells #[I g.kd,I g.s.t,I g.s.sr,I g.s.wn] 162 (0,0)):=zq _ _;have ah:(X.alloc (.cells #[I g.kd,I g.s.t,I g.s.sr,I g.s.wn] 162)).drew.1.size=X.1.size+1:=zM _ _;generalize(X.alloc (.cells #[I g.kd,I g.s.t,I g.s.sr,I g.s.wn] 162)).drew=Y at*;have d:D w.1.size w Y:=(ud a2).trans (N.mono (ud a2).size);have y9:=((ud H).later d).cell9;obtain⟨aB,aC,aD,aE,-⟩:=zc Q;have l:=fun V hV=>JW (k:=⟨g.kd,g.s⟩) ((ud H).td.later (w':=V) hV) (ud a3) (ud HX);dsimp only at l;clear g0 g1 g2 g3 g4 fl k0 k1 aJ;have g0:=l Y d;have g1:=l Y.drew d.drew;have g2:=fun o=>l (Y.alloc o) (d.alloc d.size o);have g3:=fun o=>l (Y.alloc o).drew (d.alloc d.size o).drew;have g4:=fun o=>l (Y.drew.alloc o) (d.drew.alloc d.drew.size o);have aL:b<Y.1.size:=by omega
 have z:X.1.size<Y.1.size:=by omega
 have a4:=ze Q;have K:=ze d;have aP:=ze ah;have ar:=ze N;clear Q d ah N l;go_wp2_with fail;go_region
 have v:D Y.1.size Y (Y.alloc (.cells (tZz x) 177)).drew:=((S _ _).alloc (E _) _).drew;have r:(Y.alloc (.cells (tZz x) 177)).drew.1[Y.1.size]?=J (.cells (tZz x) 177 (0,0)):=zq _ _;have aX:(Y.alloc (.cells (tZz x) 177)).drew.1.size=Y.1.size+1:=zM _ _;generalize(Y.alloc (.cells (tZz x) 177)).drew=Z at*;have ag:D w.1.size w Z:=(ud K).trans (v.mono (ud K).size);obtain⟨t0,t1,t2,t3,-⟩:=zc r;have tf:=fun j=>zw r j;have aQ:=zd r;have B:=(v.block X.1.size z).trans (ud a4);have HR:∀W,Hid (Calls prog 115 #[I (x.ti+1)] W fun e w'=>e=.returned (I (Vt (x.ti+1).toNat))/\w'=W):=fun W=>by
  have:=zlR (x.ti+1).toNat (by omega) W;rw[Int.toNat_of_nonneg (by omega)]at this;exact this
 obtain⟨q1,q2⟩:=XD (x.ti+1).toNat;obtain⟨F,y⟩:∃F:Nat,Vt (x.ti+1).toNat=F:=⟨_,rfl⟩;rw[y]at q1 q2;simp only[y]at HR;have am:=ze y;have ao:=ze r;have aq:=ze ag;have ak:=ze B;have ai:=ze v;clear g0 g1 g2 g3 g4 aB aC aD aE y9 r ag v B y;go_wp2_with(first|(go_at_call 115;refine(ud (HR _)).mono ?_;rintro e Z2 ⟨rfl,rfl⟩));have hU:((Z.setCell (U Y.1.size 2) (I (x.ti+1))).setCell (U Y.1.size 3) (I (now+F))).1[Y.1.size]?=J (.cells #[(jZz x),I x.se,I (x.ti+1),I (now+F)] 177 (0,0)):=xD (i:=3) (xD (i:=2) (ud ao) (I (x.ti+1))) (I (now+F));have u:D Y.1.size Z ((Z.setCell (U Y.1.size 2) (I (x.ti+1))).setCell (U Y.1.size 3) (I (now+F))):=((S _ _).setCell (p:=(U Y.1.size 2)) (E _) _).setCell (p:=(U Y.1.size 3)) (E _) _;generalize((Z.setCell (U Y.1.size 2) (I (x.ti+1))).setCell (U Y.1.size 3) (I (now+F)))=U9 at*;have m:D w.1.size w U9:=(ud aq).trans (u.mono (ud K).size);have P:=(u.block X.1.size z).trans (ud ak);have a1:=(u.block w.1.size (by have:=T;omega)).trans (((ud ai).block w.1.size (by have:=T;omega)).trans (((ud ar).block w.1.size T).trans (ud Y0)));have u9:=((ud H).later m).cell9;obtain⟨ax,ay,az,aA,-⟩:=zc P;obtain⟨aF,aG,aH,aI,-⟩:=zc hU;have aV:=zd hU;have aS:=zd P;have aU:=zd a1;have aK:b<U9.1.size:=R au m.size;obtain⟨o,C,hm,hk,ho⟩:=zjD (X:=U9.drew) (k:=⟨g.kd,g.s⟩) ((ud H).td.later m.drew) (by simp only[maxLen];omega) (ud a3) x (x.ti+1) (now+F);dsimp only at C;have n:=((ud H).later m.drew).putTasks hm hk;have a0:=hk.heap (k:=w.1.size) a1 (fun e=>by have:=(ud H).foot_lt tb (.inr (.inl rfl));omega);have aY:=n.cell10;obtain⟨aZ,b0,-⟩:=zc a0;have aT:=zd a0;have aR:=n.lt;have ac:(setBlock U9.drew tb o).1[qb]?=J (.map es cl):=hk.heap (k:=qb) ((m.block qb (zd (ud a7))).trans (ud a7)) (fun e=>(ud H).apart e.symm);obtain⟨a8,av,ab,aa,af,q⟩:=zkP (X:=(setBlock U9.drew tb o).drew) ac (ud al) (ud HT) 0;have HP:=ze n;have HK:=ze hk;have a6:=ze ab;have an:=ze af;have a5:=ze aa;have aj:=ze q;have ap:=ze m;clear t0 t1 t2 t3 tf hU u P a1 m hm hk n a0 aa q ab af ac;go_region
 go_wp2_with fail;generalize setBlock U9.drew tb o=M at*;clear C u9 ax ay az aA aF aG aH aI;go_region
 go_wp2_with fail;go_end0;have hP:=ud HP;have q:=ud aj;have aw:zi (fun k=>k=tb\/k=qb) w M:=(zi.of_below (f:=fun k=>k=tb\/k=qb) (ud ap).drew).trans (ud HK) (fun _ _ e=> .inl e);refine⟨rfl,⟨q.heap hP.head (fun e=>hP.qb_ne e.symm),?_,⟨a8,cl,ud a6,ud a5⟩,hP.apart⟩,?_,a8,ud a6,ud a5,ud an⟩
 ·have:=(hP.td.later (w':=M.drew) (S _ _).drew).kept q (fun e=>hP.apart e);unfold Tsk.failed;rw[ud am];exact this
 ·exact(aw.drew).trans q (fun _ _ e=> .inr e)
theorem znT(h:xi qi X tb TL){k:Jk}(g:k.wf)(c:TypeId):
  ∃o,(Builtin.delete_ #[169,162] c #[.map (J tb),.agg #[I k.kd,I k.s.t,I k.s.sr,I k.s.wn]]).run prog X=.ok (.tuple #[]) (setBlock X tb o)/\xi qi (setBlock X tb o) tb (zT TL k)/\zi (fun k=>k=tb) X (setBlock X tb o):=by
 obtain⟨es,cl,b,f⟩:=h;obtain⟨a,d,e,i⟩:=YF k8 b f g c;exact⟨.map a cl,d,⟨a,cl,xO (zd b) _,e⟩,xZ _⟩
theorem zkQ{b:Nat}(h:zC w b c tv ep num tb qb TL QL)(t:Tok)(v:t.wf)(C:zE QL t=J g)(n:(⟨g.kd,g.s⟩:Jk).wf):
  Calls prog 54 #[(O b),.agg #[I t.ep,I t.num]] w fun e w'=>e=.returned (.tuple #[])/\zC w' b c tv ep num tb qb (zT TL ⟨g.kd,g.s⟩) (zT QL t)/\zi (fun k=>k=tb\/k=qb) w w':=by
 have Z:=h.lt;have K:=zq w (.cells #[I t.ep,I t.num] 49);have L:=zM w (.cells #[I t.ep,I t.num] 49);have a:D w.1.size w (w.alloc (.cells #[I t.ep,I t.num] 49)):=(S _ _).alloc (E _) _;obtain⟨k0,k1,-⟩:=zc K;have x9:=(h.later a).cell9;have H:=(h.later a).cell10;have V:=JU ((h.later a).leases) v C;have W:=JU ((h.later a.drew).leases) v C;have U:=zhX g;have a0:w.1.size<(w.alloc (.cells #[I t.ep,I t.num] 49)).1.size:=by rw[L];omega
 have N:b<(w.alloc (.cells #[I t.ep,I t.num] 49)).1.size:=by rw[L];omega
 obtain⟨o,i,P,u⟩:=znT (X:=(w.alloc (.cells #[I t.ep,I t.num] 49)).drew) (k:=⟨g.kd,g.s⟩) ((h.later a.drew).td) n 0;dsimp only at i;have j:=(h.later a.drew).putTasks P u;have q:=u.heap (k:=w.1.size) (show(w.alloc (.cells #[I t.ep,I t.num] 49)).drew.1[w.1.size]?=_ from K) (fun e=>by have:=h.foot_lt tb (.inr (.inl rfl));omega);have HH:=ze h;have x:=ze a;have T:=ze v;have r:=ze j;have Q:=ze u;have l:=ze q;clear h K L a n C v P j u q;go_enter func54,ntmps54;go_wp2_with fail;generalize(w.alloc (.cells #[I t.ep,I t.num] 49))=X at*;go_region
 go_wp2_with fail;generalize setBlock X.drew tb o=M at*;have a2:=(ud r).cell10;obtain⟨a3,a4,-⟩:=zc (ud l);have a1:=zd (ud l);have Y:=(ud r).lt;obtain⟨o3,B,p,d⟩:=znS (X:=M.drew) (ud r).leases (ud T) 0;have z:=ze p;have y:=ze d;clear V W U k0 k1 x9 H i p d;go_region
 go_wp2_with fail;go_end0;have m:=ud r;have d:=ud y;have F:zi (fun k=>k=tb\/k=qb) w M:=(zi.of_below (f:=fun k=>k=tb\/k=qb) (ud x).drew).trans (ud Q) (fun _ _ e=> .inl e);refine⟨rfl,⟨d.heap m.head (fun e=>m.qb_ne e.symm),(m.td.later (w':=M.drew) (S _ _).drew).kept d (fun e=>m.apart e),ud z,m.apart⟩,(F.drew).trans d (fun _ _ e=> .inr e)⟩
def zmS(o:Option Tsk):Value:=match o with
 |none=> .nilIface
 |some x=>(jZz x)
theorem znZ(o:Option Tsk)(W:G):(Instr.field 177 (Vo o) 0).run prog W=.ok (zmS o) W:=by
 cases o with
 |none=>kernel_rfl
 |some x=>kernel_rfl
def Tk.fail(now:Int)(x:Tk):Tk:={x with ti:=x.ti+1,rest:=now+Vt (x.ti+1).toNat,ep:=0,num:=0,slot:= -1,till:=0}
def zkU(now:Int)(x:Tk):Tk:=if 0<=x.slot/\x.till<=now then x.fail now else x
def RM.tickL(m:RM)(n:Int):RM×Int:=if n<1\/1000<n\/100000<m.now+n then(m,5)else({m with now:=m.now+n,td:=m.td.map (zkU (m.now+n))}.settled,0)
variable {m:RM}
theorem zjT(h:n<1\/1000<n\/100000<m.now+n):m.tickL n=(m,5):=by simp[RM.tickL,h]
theorem zmu(h:¬(n<1\/1000<n\/100000<m.now+n)):m.tickL n=({m with now:=m.now+n,td:=m.td.map (zkU (m.now+n))}.settled,0):=by unfold RM.tickL;rw[if_neg h]
def yY(o:Option Lse):Lse:=o.getD ⟨0,⟨0,0,0⟩,0,0⟩
theorem ziA(h:xi xJ X qb QL)(c:t.wf):(Instr.lookup 168 (.map (J qb)) (.agg #[I t.ep,I t.num]) true).run prog X=.ok (.tuple #[.agg #[I (yY (zE QL t)).kd,I (yY (zE QL t)).s.t,I (yY (zE QL t)).s.sr,I (yY (zE QL t)).s.wn,I (yY (zE QL t)).slot,I (yY (zE QL t)).til],.bool (zE QL t).isSome]) X:=by
 have a:=kK yx true h c;cases b:zE QL t with
 |none=>rw[b]at a;exact a
 |some g=>rw[b]at a;exact a
theorem ziB(h:xi qi X tb TL){k:Jk}(c:k.wf):(Instr.lookup 169 (.map (J tb)) (.agg #[I k.kd,I k.s.t,I k.s.sr,I k.s.wn]) false).run prog X=.ok (Vo (zE TL k)) X:=by
 have a:=kK k8 false h c;cases b:zE TL k with
 |none=>rw[b]at a;exact a
 |some g=>rw[b]at a;exact a
theorem jU{b:Nat}(h:zC w b c tv ep num tb qb TL QL)(t:Tok)(H:t.wf)(q:(⟨(yY (zE QL t)).kd,(yY (zE QL t)).s⟩:Jk).wf):
  Calls prog 51 #[(O b),.agg #[I t.ep,I t.num]] w (Rz w (.tuple #[zmS (zE TL ⟨(yY (zE QL t)).kd,(yY (zE QL t)).s⟩),.bool (zE QL t).isSome])):=by
 have Q:=h.lt;have K:=zq w (.cells #[I t.ep,I t.num] 49);have z:=zM w (.cells #[I t.ep,I t.num] 49);have a:D w.1.size w (w.alloc (.cells #[I t.ep,I t.num] 49)):=(S _ _).alloc (E _) _;obtain⟨V,W,-⟩:=zc K;have y:=(h.later a).cell10;have f:=fun X n=>ziA (h.leases.later (w':=X) n) H;have d:=fun X n=>ziB (h.td.later (w':=X) n) q;dsimp only at d;obtain⟨g,v⟩:∃g,yY (zE QL t)=g:=⟨_,rfl⟩;obtain⟨ok,l⟩:∃ok,(zE QL t).isSome=ok:=⟨_,rfl⟩;rw[v]at d ⊢;rw[l];rw[v,l]at f;obtain⟨x,r⟩:∃x,zE TL ⟨g.kd,g.s⟩=x:=⟨_,rfl⟩;rw[r]at d ⊢;have B:=f _ a;have C:=f _ a.drew;have M:=fun o=>f _ (a.alloc a.size o);have N:=fun o=>f _ (a.alloc a.size o).drew;have P:=fun o=>f _ (a.drew.alloc a.drew.size o);have T:w.1.size<(w.alloc (.cells #[I t.ep,I t.num] 49)).1.size:=by rw[z];omega
 have p:b<(w.alloc (.cells #[I t.ep,I t.num] 49)).1.size:=by rw[z];omega
 have L:=ze h;have m:=ze a;have i:=fun X n=>ze (d X n);clear h K z a f H q v l r d;go_enter func51,ntmps51;go_wp2_with fail;generalize(w.alloc (.cells #[I t.ep,I t.num] 49))=X at*;go_region
 have j:D X.1.size X (X.alloc (.cells (lZz g) 164)).drew:=((S _ _).alloc (E _) _).drew;have k:(X.alloc (.cells (lZz g) 164)).drew.1[X.1.size]?=J (.cells (lZz g) 164 (0,0)):=zq _ _;generalize(X.alloc (.cells (lZz g) 164)).drew=Y at*;have e:D w.1.size w Y:=(ud m).trans (j.mono (ud m).size);have y9:=((ud L).later e).cell9;obtain⟨Z,a0,a1,a2,-⟩:=zc k;have U:=zd k;have F:b<Y.1.size:=R p j.size;clear B C M N P V W y;have B:=ud (i Y e);have C:=ud (i Y.drew e.drew);have fl:=znZ x;have u:=ze e;clear k e j i;go_wp2_with fail;go_region
 go_wp2_with fail;go_ret2;exact⟨rfl,(ud u).drew⟩
inductive YQ (now:Int) (TL:List (Jk×Tsk)) (QL:List (Tok×Lse)):List (Jk×Tsk)->List (Tok×Lse)->Prop
 |nil:YQ now TL QL TL QL
 |step {T1:List (Jk×Tsk)} {Q1:List (Tok×Lse)} {t:Tok} {g:Lse} {x:Tsk}:YQ now TL QL T1 Q1->zE Q1 t=J g->g.til<=now->zE T1 ⟨g.kd,g.s⟩=J x->YQ now TL QL (qj T1 ⟨g.kd,g.s⟩ (x.failed now)) (zT Q1 t)
structure zmF(B:Int)(n:Nat)(TL:List (Jk×Tsk))(QL:List (Tok×Lse)):Prop where
 job:∀p,p∈QL->∃x,zE TL ⟨p.2.kd,p.2.s⟩=J x
 ti:∀p,p∈TL->0<=p.2.ti/\p.2.ti+QL.length<=B
 wfk:∀p,p∈TL->p.1.wf
 len:TL.length<=n
 tn:(zk TL).Nodup
 qn:(zk QL).Nodup
theorem zou{α β:Type}[DecidableEq α]{L:List (α×β)}{a:α}{v:β}(h:(a,v)∈L):(zT L a).length<L.length:=by
 unfold zT;refine Nat.lt_of_le_of_ne (List.length_filter_le _ _) (fun e=>?_);have:=List.length_filter_eq_length_iff.1 e (a,v) h;simp at this
theorem zmF.step{B:Int}{n:Nat}{T1:List (Jk×Tsk)}{e:List (Tok×Lse)}(h:zmF B n T1 e)(now:Int){t:Tok}{g:Lse}{x:Tsk}(i:zE e t=J g)(j:zE T1 ⟨g.kd,g.s⟩=J x):zmF B n (qj T1 ⟨g.kd,g.s⟩ (x.failed now)) (zT e t):=by
 have f:=zA i;have d:=zA j;have l:=zou f;refine⟨fun p c=>?_,fun p c=>?_,fun p c=>?_,?_,qq h.tn,qa h.qn⟩
 ·obtain⟨y,k⟩:=h.job p (zS.1 c).1;rw[vd h.tn];split
  ·exact⟨_,rfl⟩
  ·exact⟨y,k⟩
 ·rcases ym c with rfl|⟨c,_⟩
  ·obtain⟨a,b⟩:=h.ti _ d;dsimp only[Tsk.failed]at a b ⊢;omega
  ·obtain⟨a,b⟩:=h.ti _ c;omega
 ·rcases ym c with rfl|⟨c,_⟩
  ·exact h.wfk (_,x) d
  ·exact h.wfk _ c
 ·rw[vB,if_pos (show(⟨g.kd,g.s⟩:Jk)∈zk T1 from List.mem_map.2 ⟨(_,x),d,rfl⟩)];exact h.len
theorem zdr(h:(es.toList.map (·.born)).Nodup){a b:MapEntry}(m:a∈es.toList)(n:b∈es.toList)(e:a.born=b.born):a=b:=by
 obtain⟨i,k,f⟩:=List.getElem_of_mem m;obtain⟨j,l,d⟩:=List.getElem_of_mem n;have g:es.toList.Pairwise (fun a b=>a.born≠b.born):=List.pairwise_map.1 h;rcases Nat.lt_trichotomy i j with c|c|c
 ·have:=List.pairwise_iff_getElem.1 g i j k l c;rw[f,d]at this;exact absurd e this
 ·subst c;rw[f]at d;exact d
 ·have:=List.pairwise_iff_getElem.1 g j i l k c;rw[f,d]at this;exact absurd e.symm this
variable {p:Tok×Lse}
theorem zhQ{a:Nat}{L:List (Tok×Lse)}(h:jd xJ es a L)(f:p∈L):∃x∈es.toList,x.key=yB p.1/\x.val=vC p.2:=by
 have d:(xJ.ke p.1,xJ.ve p.2)∈es.toList.map (fun e=>(e.key,e.val)):=h.kv▸List.mem_map.2 ⟨p,f,rfl⟩;obtain⟨x,g,e⟩:=List.mem_map.1 d;injection e with b c;exact⟨x,g,b,c⟩
theorem zot{a b:Lse}(h:vC a=vC b):a.til=b.til:=by
 unfold vC at h;injection h with h;simp at h;exact h.2.2.2.2.2
theorem zfx{b:Nat}(h:zC w b c tv ep num tb qb TL QL)(now:Int)(al:0<=now/\now<=100000)(hI:zmF 1000000 100000 TL QL):
  Calls prog 59 #[(O b),I now] w fun e w'=>e=.returned (.tuple #[])/\∃TL' a0,zC w' b c tv ep num tb qb TL' a0/\zi (fun k=>k=tb\/k=qb) w w'/\YQ now TL QL TL' a0/\∀p∈a0,now<p.2.til:=by
 obtain⟨Q,d,a6,an⟩:=h.leases;have aC:=h.lt;have av:=h.cell10;have U:=run_range_map (P:=prog) w 168 _ _ qb Q d underlying168 a6;have HH:=ze h;have au:=ze an;have Z:=ze a6;clear h an;go_enter func59,ntmps59;go_wp2_with fail;go_loopw [4,5] (fun _ _ wr=>∃(j:Array Nat) (c0:Nat) (es:Array MapEntry) (T1:List (Jk×Tsk)) (M:List (Tok×Lse)),wr.1[w.1.size]?=J (.mapIter (J qb) d j c0)/\d<=c0/\wr.1[qb]?=J (.map es d)/\jd xJ es d M/\(∀e∈es.toList,e∈Q.toList)/\(∀e∈es.toList,e.born∈j.toList->∀g,e.val=vC g->now<g.til)/\zC wr b c tv ep num tb qb T1 M/\zi (fun k=>k=tb\/k=qb) w wr/\YQ now TL QL T1 M/\zmF 1000000 100000 T1 M)
  (fun _ _ wr=>Z9 Q w.1.size wr)
 case atStart=>
  have a2:D w.1.size w (w.alloc (.mapIter (J qb) d #[] d)):=(S _ _).alloc (E _) _;exact⟨#[],d,Q,TL,QL,zq _ _,E _,(a2.block _ (zd (ud Z))).trans (ud Z),ud au,fun _ h=>h,by simp,(ud HH).later a2,zi.of_below a2,.nil,hI⟩
 case round=>
  obtain⟨j,c0,es,T1,M,T,ay,a7,f,q,n,hB,hK,N,l⟩:=hrel;have aD:=zd T;clear U av a6;rcases run_next_at (P:=prog) wr 0 w.1.size qb d c0 j es d T a7 f.born ay with⟨hz,B⟩|⟨e,a3,w1,W,B⟩
  ·have HP:=ze (And.intro f (And.intro n (And.intro hB (And.intro hK (And.intro N hz)))));clear hz f n hB hK N l hI q;go_wp2_with fail;go_end0;obtain⟨f,n,hB,hK,N,hz⟩:=ud HP;refine⟨rfl,T1,M,hB,hK,N,fun p hp=>?_⟩;obtain⟨x,Y,ek,ev⟩:∃x∈es.toList,x.key=yB p.1/\x.val=vC p.2:=zhQ f hp;refine n x Y ?_ p.2 ev;by_cases r:x.born∈j.toList
   ·exact r
   ·have:x∈(leftOf es j).toList:=xF.2 ⟨Y,r⟩;rw[Array.eq_empty_of_size_eq_zero hz]at this;simp at this
  ·have a9:=ze a3;obtain⟨m,aA⟩:=xF.1 a3;have ao:w1.1[w.1.size]?=J (.mapIter (J qb) d j c0):=(by rcases W with rfl|rfl<;>exact T);have am:w1.1[qb]?=J (.map es d):=(by rcases W with rfl|rfl<;>exact a7);have ak:qb≠w.1.size:=(by have:=zd (ud Z);omega);obtain⟨X,hX⟩:∃X,setBlock w1 w.1.size (.mapIter (J qb) d (j.push e.born) d)=X:=⟨_,rfl⟩;have u:X.1[w.1.size]?=J (.mapIter (J qb) d (j.push e.born) d):=(by rw[<-hX];exact xO (zd ao) _);have o:X.1[qb]?=J (.map es d):=(by rw[<-hX,xq ak];exact am);have a5:zi (fun k=>k=w.1.size) wr X:=by
    rw[<-hX];rcases W with rfl|rfl
    ·exact xZ _
    ·exact(zi.refl (fun k=>k=w.1.size) wr).drew.trans (xZ _) (fun _ _ h=>h)
   have z:=hB.kept a5 (fun k hk e=>by have:=(ud HH).foot_lt k hk;omega);have C:zi (fun k=>k=tb\/k=qb) w X:=hK.trans a5 (fun i hi e=>by omega);rw[hX]at B;have ai:=run_entry_at (P:=prog) X w.1.size qb d j es d e u o m f.once;obtain⟨v,hk,hv⟩:=Xa yx f m;obtain⟨⟨t,y⟩,ar⟩:∃y,kC xJ M e=y:=⟨_,rfl⟩;rw[ar]at v hk hv;have ab:=ze (And.intro v (And.intro hk hv));have H:e.key=yB t:=hk;have L:e.val=vC y:=hv;unfold yB at H;unfold vC at L;rw[H,L]at B ai;have ae:=zd u;have aE:=z.lt;have HP:=ze (And.intro f (And.intro n (And.intro z (And.intro C (And.intro N (And.intro l (And.intro q (And.intro T (And.intro u (And.intro o m))))))))));have a4:zE M t=J y:=xt f.nodup v;have aa:=ze a4;obtain⟨x,Y⟩:=l.job _ v;have ac:=ze Y;have a8:=l.ti _ (zA Y);dsimp only at Y a8;have HF:∀V,D X.1.size X V->Hid (Calls prog 56 #[(O b),.agg #[I t.ep,I t.num],I now] V fun e w'=>e=.returned (.tuple #[])/\zC w' b c tv ep num tb qb (qj T1 ⟨y.kd,y.s⟩ (x.failed now)) (zT M t)/\zi (fun k=>k=tb\/k=qb) V w'/\∃a1,w'.1[qb]?=J (.map a1 d)/\jd xJ a1 d (zT M t)/\∀e,e∈a1.toList↔e∈es.toList/\e.key≠yB t):=fun V F=>
    zei (z.later F) t (f.wf _ v) a4 (l.wfk _ (zA Y)) Y now al ⟨a8.1,by omega⟩ l.len ((F.block _ (zd o)).trans o) f
   clear f n hB hK N l hI q T u o a5 z C ao am hX W hk hv v ar a3 m aA H L a7 a4 Y a8;have F:D X.1.size X ((X.alloc (.cells #[I t.ep,I t.num] 49)).alloc (.cells (lZz y) 164)):=((S _ _).alloc (E _) _).alloc ((S _ _).alloc (E _) _).size _;have HV:=ze F;clear F;by_cases aq:y.til<=now
   ·go_wp2_with(first|(go_at_call 56;refine(ud (HF _ (ud HV))).mono ?_;rintro e3 W3 ⟨rfl,h3⟩;have H3:=ze h3;clear h3));obtain⟨f,n,z,C,N,l,q,T,u,o,m⟩:=ud HP;obtain⟨ax,ad,aw,aB,az,ap⟩:=ud H3;obtain⟨v,ah,aj⟩:=ud ab;have F:=ud HV;have K:=ad.heap ((F.block _ ae).trans u) (fun e=>by
     rcases e with e|e
     ·have:=(ud HH).foot_lt tb (.inr (.inl rfl));omega
     ·exact ak e.symm)
    refine⟨⟨_,_,aw,_,_,K,E _,aB,az,fun a ha=>q a ((ap a).1 ha).1,fun a ha r g hg=>?_,ax,(ZR C F).trans ad (fun _ _ h=>h),.step N (ud aa) aq (ud ac),l.step now (ud aa) (ud ac)⟩,?_⟩
    ·obtain⟨af,ag⟩:=(ap a).1 ha;rw[Array.toList_push,List.mem_append]at r;rcases r with r|r
     ·exact n a af r g hg
     ·rw[List.mem_singleton]at r;rw[zdr f.once af m r]at ag;exact absurd ah ag
    ·rw[xv K,xv T];exact qR (xF.2 ⟨q e m,(xF.1 (ud a9)).2⟩)
   ·go_wp2_with fail;obtain⟨f,n,z,C,N,l,q,T,u,o,m⟩:=ud HP;obtain⟨v,ah,aj⟩:=ud ab;have F:=ud HV;have K:=(F.block _ ae).trans u;refine⟨⟨_,_,es,_,_,K,E _,(F.block _ (zd o)).trans o,f,q,fun a ha r g hg=>?_,z.later F,ZR C F,N,l⟩,?_⟩
    ·rw[Array.toList_push,List.mem_append]at r;rcases r with r|r
     ·exact n a ha r g hg
     ·rw[List.mem_singleton]at r;rw[zdr f.once ha m r]at hg;have:=zot (hg.symm.trans aj);dsimp only at this;omega
    ·rw[xv K,xv T];exact qR (xF.2 ⟨q e m,(xF.1 (ud a9)).2⟩)
set_option maxRecDepth 20000
theorem vX(a:Array Value)(i:Nat)(v:Value)(h:a[i]?=J v)(w:G):(part 3 a i).run prog w=.ok v w:=by simp[part,h]
theorem eqS1(d:Nat)(a b c e f g:Int)(w:G):(Op.equalIn (d+2) 146 (.agg #[I a,I b,I c]) (.agg #[I e,I f,I g])).run prog w=.ok (a==e&&b==f&&c==g) w:=by
 have k:∃h i j,(prog.fieldsOf 146).toList=[h,i,j]/\h.name≠ "_" /\i.name≠ "_" /\j.name≠ "_" /\h.type=3/\i.type=3/\j.type=3/\h.offset=0/\i.offset=1/\j.offset=2:=by
  refine⟨_,_,_,rfl,?_⟩
  decide
 obtain⟨h,i,j,k,l,m,n,r,s,t,o,p,q⟩:=k;rw[run_equalIn_struct w (d+1) 146 _ _ (by kernel_rfl) (by kernel_rfl),k];simp only[Op.eqFields,l,m,n,r,s,t,o,p,q,ne_eq,not_false_eq_true,if_true,Sem.run_bind,Sem.run_ite,Sem.run_pure,
  vX #[I a,I b,I c] 0 (I a) rfl,vX #[I a,I b,I c] 1 (I b) rfl,vX #[I a,I b,I c] 2 (I c) rfl,
  vX #[I e,I f,I g] 0 (I e) rfl,vX #[I e,I f,I g] 1 (I f) rfl,vX #[I e,I f,I g] 2 (I g) rfl,
  Result.andThen_ok,run_equalIn_int _ _ _ _ _ _ _ underlying3]
 cases a==e<;>cases b==f<;>cases c==g<;>rfl
theorem eqJ1(k a b c f g h i:Int)(w:G):(Op.equal 162 (.agg #[I k,I a,I b,I c]) (.agg #[I f,I g,I h,I i])).run prog w=.ok (k==f&&(a==g&&b==h&&c==i)) w:=by
 have j:∃d e,(prog.fieldsOf 162).toList=[d,e]/\d.name≠ "_" /\e.name≠ "_" /\d.type=3/\e.type=146/\d.offset=0/\e.offset=1:=by
  refine⟨_,_,rfl,?_⟩
  decide
 obtain⟨d,e,j,m,n,q,r,o,p⟩:=j;have l:∀(k a b c:Int) (w:G),(part 146 #[I k,I a,I b,I c] 1).run prog w=.ok (.agg #[I a,I b,I c]) w:=fun k a b c w=>by kernel_rfl
 show(Op.equalIn (9999+1) 162 _ _).run prog w=_;rw[run_equalIn_struct w 9999 162 _ _ (by kernel_rfl) (by kernel_rfl),j];simp only[Op.eqFields,m,n,q,r,o,p,ne_eq,not_false_eq_true,if_true,Sem.run_bind,Sem.run_ite,Sem.run_pure,
  vX #[I k,I a,I b,I c] 0 (I k) rfl,vX #[I f,I g,I h,I i] 0 (I f) rfl,l,
  Result.andThen_ok,show(9999:Nat)=9998+1 from rfl,run_equalIn_int _ _ _ _ _ _ _ underlying3]
 rw[show(9998+1:Nat)=9997+2 from rfl,eqS1];cases k==f<;>cases(a==g&&b==h&&c==i)<;>rfl
theorem zhR(a b:Jk)(w:G):(binOp .eql 162 (.agg #[I a.kd,I a.s.t,I a.s.sr,I a.s.wn]) (.agg #[I b.kd,I b.s.t,I b.s.sr,I b.s.wn])).run prog w=.ok (.bool (decide (a=b))) w:=by
 have c:binOp .eql 162 (.agg #[I a.kd,I a.s.t,I a.s.sr,I a.s.wn]) (.agg #[I b.kd,I b.s.t,I b.s.sr,I b.s.wn])=(Op.equal 162 (.agg #[I a.kd,I a.s.t,I a.s.sr,I a.s.wn]) (.agg #[I b.kd,I b.s.t,I b.s.sr,I b.s.wn])>>=fun r=>pure (Value.bool r)):=by unfold binOp;rfl
 have d:(a.kd==b.kd&&(a.s.t==b.s.t&&a.s.sr==b.s.sr&&a.s.wn==b.s.wn))=decide (a=b):=by
  obtain⟨k,⟨t,s,w⟩⟩:=a;obtain⟨e,⟨g,f,w'⟩⟩:=b;rw[Bool.eq_iff_iff,decide_eq_true_iff];simp[and_assoc]
 rw[c,Sem.run_bind,eqJ1,d];rfl
def Tsk.kd(x:Tsk):Int:=if x.rl then 1 else 2
def Tsk.key(x:Tsk):Jk:=⟨x.kd,x.s⟩
theorem keyOf_any(x:Tsk)(w:G):Calls prog 102 #[(jZz x)] w (Rz w (.agg #[I x.kd,I x.s.t,I x.s.sr,I x.s.wn])):=by
 obtain⟨d,s,a,b,c⟩:=x;cases d with
 |true=>exact keyOf_Roll s w
 |false=>exact keyOf_Reclaim s w
theorem zhz(x:Lse)(a:Nat)(k:Int)(w:G)(b:w.cell? (U a 0)=J (I k))(c:a<w.1.size):Calls prog 95 #[.agg (lZz x),(O a)] w (Rz w (.bool (x.slot==k))):=by
 go_enter func95,ntmps95;go_wp2_with fail;go_ret;exact⟨rfl,(S _ _).alloc (E _) _⟩
theorem bsen:∀a w,(callFunc 95 a).run prog w=.ok (.enter 95 a) w:=enters_of func95 (by kernel_rfl) rfl
theorem zfk{α:Type}(p:α->Bool)(c:List α):(decide (0<((c.filter p).length:Int)))=c.any p:=by
 rw[Bool.eq_iff_iff,decide_eq_true_iff,List.any_eq_true];constructor
 ·intro h;have d:0<(c.filter p).length:=by omega
  obtain⟨a,b⟩:=List.exists_mem_of_length_pos d;exact⟨a,(List.mem_filter.1 b).1,(List.mem_filter.1 b).2⟩
 ·rintro⟨a,b,e⟩;have:=List.length_pos_of_mem (List.mem_filter.2 ⟨b,e⟩);omega
theorem zkv{α:Type}(p:α->Bool){d e:List α}(h:d.Perm e):d.any p=e.any p:=by
 rw[Bool.eq_iff_iff,List.any_eq_true,List.any_eq_true];constructor
 ·rintro⟨a,b,c⟩;exact⟨a,h.mem_iff.1 b,c⟩
 ·rintro⟨a,b,c⟩;exact⟨a,h.mem_iff.2 b,c⟩
theorem zhm{α β:Type}(p:β->Bool){b L:List (α×β)}(h:b.Perm L):(decide (0<(((b.map (fun q:α×β=>q.2)).filter p).length:Int)))=L.any (fun q=>p q.2):=by
 rw[zfk,<-zkv (fun q:α×β=>p q.2) h];induction b generalizing L with
 |nil=>rfl
 |cons a r c=>simp only[List.map_cons,List.any_cons];rw[c (L:=r) (List.Perm.refl _)]
theorem zkE{b:Nat}(h:zC w b c tv ep num tb qb TL QL)(slot:Int)(v:QL.length<=100000):
  Calls prog 47 #[(O b),I slot] w (Rz w (.bool (QL.any (fun p=>p.2.slot==slot)))):=by
 have l:=h.lt;have i:=h.cell10;have j:∀o,D w.1.size w (w.alloc o):=fun o=>(S _ _).alloc (E _) _;obtain⟨g,q,a,r⟩:=box2 w (.cells #[I slot] 3) (.cells #[.map (J qb)] 168);have u:=ze (zig qb (w.alloc (.cells #[I slot] 3)));have t:=ze (zhJ 156 #[(O (w.1.size+1))] zmM 95 #[] #[(O w.1.size)] bsen (fun x=>x.slot==slot) _
  (fun x W n=>zhz x w.1.size slot W (by rw[xR ((n.block _ (zd g)).trans g)];rfl) (R (zd g) n.size))
  (zmR (ex:=fun _=>False) (w.1.size+1) qb QL _ (fun e=>e) (by rw[r];omega) (by rw[xR q];rfl) (h.leases.later a)) (fun B ⟨y,f,e⟩=>by rw[e,List.length_map,f.length_eq];omega))
 have d:=ze a;have m:=((j (.cells #[I slot] 3)).cell (p:=(U b 10)) l).trans i;clear h v g q a r;go_enter func47,ntmps47;go_wp2_with fail;refine(ud u).mono ?_;rintro e z ⟨rfl,rfl⟩;go_wp2_with fail;refine(ud t).mono ?_;rintro e z ⟨B,⟨y,f,rfl⟩,rfl,k⟩;have s:=ze (zhm (fun x:Lse=>x.slot==slot) f);clear f;go_wp2_with fail;go_ret;exact⟨by rw[<-ud s];rfl,(ud d).trans (k.mono (ud d).size)⟩
theorem zdh(g:Lse)(e:Nat)(x:Tsk)(w:G)(l:w.1[e]?=J (.cells (tZz x) 177 (0,0))):Calls prog 159 #[.agg (lZz g),(O e)] w (Rz w (.bool (decide ((⟨g.kd,g.s⟩:Jk)=x.key)))):=by
 have F:=zd l;obtain⟨y,-⟩:=zc l;have B:=fun W=>ze (keyOf_any x W);have a:D w.1.size w (w.alloc (.cells (lZz g) 164)):=(S _ _).alloc (E _) _;have r:=zq w (.cells (lZz g) 164);have t:=zM w (.cells (lZz g) 164);have M:=(a.cell (p:=(U e 0)) F).trans y;obtain⟨H,I,K,L,-⟩:=zc r;have v:=fun W=>zhR ⟨g.kd,g.s⟩ x.key W;obtain⟨d,m⟩:∃d,decide ((⟨g.kd,g.s⟩:Jk)=x.key)=d:=⟨_,rfl⟩;rw[m];simp only[m]at v;clear m;dsimp only[Tsk.key]at v;have f:=ze a;have z:=ze t;clear l r t a y;go_enter func159,ntmps159;go_wp2_with fail;have P:w.1.size<w.1.size+1:=by omega
 have Q:e<w.1.size+1:=by omega
 generalize(w.alloc (.cells (lZz g) 164))=X at*;generalize C:w.1.size+1=N at*;have q:Nonempty (xg N X):=xg.some _ _;have n:=fun(u:xg N X) b o h=>u.cell b o h;have c:N<=X.1.size:=by rw[ud z];exact E _
 have j:=ze c;have i:Hid (w.1.size<=N):=by show w.1.size<=N;omega
 clear c C;refine zy N (by kernel_rfl) (by kernel_rfl) ?_;repeat(go_big_quiet_step (first
  |(go_at_call 102;exact Calls.later (ud j) (ud (B _)))))
 refine wpQuiet_nil ?_;rintro⟨T,k⟩;clear n q;dsimp only;go_wp2_with fail;go_ret;exact⟨rfl,(ud f).trans (k.mono (ud i))⟩
theorem lsen:∀a w,(callFunc 159 a).run prog w=.ok (.enter 159 a) w:=enters_of func159 (by kernel_rfl) rfl
def kr(QL:List (Tok×Lse))(k:Jk):Bool:=QL.any (fun p=>decide ((⟨p.2.kd,p.2.s⟩:Jk)=k))
theorem zfN{b:Nat}(h:zC w b c tv ep num tb qb TL QL)(x:Tsk)(z:QL.length<=100000):
  Calls prog 99 #[(O b),.agg (tZz x)] w (Rz w (.bool (kr QL x.key))):=by
 have l:=h.lt;have i:=h.cell10;have j:∀o,D w.1.size w (w.alloc o):=fun o=>(S _ _).alloc (E _) _;obtain⟨m,q,a,r⟩:=box2 w (.cells (tZz x) 177) (.cells #[.map (J qb)] 168);have v:=ze (zig qb (w.alloc (.cells (tZz x) 177)));have u:=ze (zhJ 156 #[(O (w.1.size+1))] zmM 159 #[] #[(O w.1.size)] lsen (fun g=>decide ((⟨g.kd,g.s⟩:Jk)=x.key)) _
  (fun g W y=>zdh g w.1.size x W ((y.block _ (zd m)).trans m))
  (zmR (ex:=fun _=>False) (w.1.size+1) qb QL _ (fun e=>e) (by rw[r];omega) (by rw[xR q];rfl) (h.leases.later a)) (fun F ⟨B,f,e⟩=>by rw[e,List.length_map,f.length_eq];omega))
 have d:=ze a;have n:=((j (.cells (tZz x) 177)).cell (p:=(U b 10)) l).trans i;clear h z m q a r;go_enter func99,ntmps99;go_wp2_with fail;refine(ud v).mono ?_;rintro e C ⟨rfl,rfl⟩;go_wp2_with fail;refine(ud u).mono ?_;rintro e C ⟨F,⟨B,f,rfl⟩,rfl,k⟩;have t:=ze (zhm (fun g:Lse=>decide ((⟨g.kd,g.s⟩:Jk)=x.key)) f);clear f;go_wp2_with fail;go_ret;refine⟨?_,(ud d).trans (k.mono (ud d).size)⟩;unfold kr;rw[<-ud t];rfl
def Tk.holds(ep num:Int)(x:Tk):Bool:=decide (0<=x.slot)&&(decide (x.ep=ep)&&decide (x.num=num))
structure MS where
 now:Int
 L:LV
 Gl:List (Sg×Unit)
 num:Int
 TL:List (Jk×Tsk)
 QL:List (Tok×Lse)
def Lse.job(g:Lse):Jk:=⟨g.kd,g.s⟩
def Cf.clo(c:Cf)(now:Int)(s:Sg):Prop:=(s.wn+1)*c.wh s.t<=now-c.la
def Cf.b(c:Cf):Nat:=((List.range c.n).find? (fun j:Nat=>decide (c.F j= -1))).getD 0
theorem Cf.b_of(h:∃j:Nat,j<c.n/\c.F j= -1):c.b<c.n/\c.F c.b= -1:=by
 obtain⟨j,f,e⟩:=h;unfold Cf.b;cases a:(List.range c.n).find? (fun j:Nat=>decide (c.F j= -1))with
 |none=>exact absurd (decide_eq_true e) (List.find?_eq_none.1 a j (List.mem_range.2 f))
 |some i=>
  have d:=List.find?_some a
  exact⟨List.mem_range.1 (List.mem_of_find?_eq_some a),of_decide_eq_true d⟩
structure Cf.fits(c:Cf):Prop where
 bn:c.b<c.n
 from0:c.F c.b= -1
 div0:∃q:Int,1<=q/\c.W c.b=c.wi*q
 down:∀i:Nat,i<c.n-> -1<=c.F i/\c.F i<c.n
 quot:∀i:Nat,i<c.n->∃q:Int,1<=q/\c.W i=c.wh (c.F i)*q
 dn:∀i:Nat,i<c.n->Go.Proofs.YtndhpgciopcncaaGreatDoor.down c.F c.n (i:Int)=true
theorem Cf.clo_mono{a b:Int}(h:a<=b)(d:c.clo a s):c.clo b s:=by unfold Cf.clo at*;omega
structure zgZ(c:Cf)(now:Int)(L:LV)(p:Jk×Tsk):Prop where
 key:p.1=p.2.key
 mem:p.2.s∈zn L
 clo:c.clo now p.2.s
 roll:p.2.rl=true->(stL L p.2.s).st=2
 recl:p.2.rl=false->(stL L p.2.s).st≠2
 se:0<=p.2.se/\p.2.se<=now
 ti:0<=p.2.ti/\p.2.ti<=p.2.rest/\p.2.rest<=now+32
structure znl(c:Cf)(ep now num:Int)(TL:List (Jk×Tsk))(q:Tok×Lse):Prop where
 job:∃x,zE TL q.2.job=J x/\x.rest<=now
 ep:q.1.ep=ep
 num:1<=q.1.num/\q.1.num<=num
 til:now<q.2.til/\q.2.til<=now+c.le
structure yu(c:Cf)(now:Int)(L:LV)(Gl:List (Sg×Unit)):Prop where
 inr:∀p∈L,inR c p.1
 nl:(zn L).Nodup
 raw:∀p∈L,p.1.t= -1->p.2.st=1/\1<=p.2.cl.cnt/\ -(p.2.cl.cnt*2147483648)<=p.2.cl.sum/\p.2.cl.sum<=p.2.cl.cnt*2147483648
 tier:∀p∈L,0<=p.1.t->p.2.st=2\/p.2.st=3
 disj:∀p∈L,p.1∉zk Gl
 ng:(zk Gl).Nodup
 pubc:∀p∈L,p.2.st=3->c.clo now p.1
 goc:∀k∈zk Gl,c.clo now k
 above:∀p∈L,p.1.t= -1->(⟨(c.b:Int),p.1.sr,p.1.wn*c.wi/c.W c.b⟩:Sg)∈zn L\/(⟨(c.b:Int),p.1.sr,p.1.wn*c.wi/c.W c.b⟩:Sg)∈zk Gl
 used:zV L<=c.qu
structure MOk(c:Cf)(ep:Int)(m:MS):Prop where
 now:0<=m.now/\m.now<=100000
 seg:yu c m.now m.L m.Gl
 td:∀p∈m.TL,zgZ c m.now m.L p
 nt:(zk m.TL).Nodup
 leas:∀q∈m.QL,znl c ep m.now m.num m.TL q
 nq:(zk m.QL).Nodup
 jobs:(m.QL.map (fun q=>q.2.job)).Nodup
 num:0<=m.num
section
variable {c:Cf} {now:Int} {L:LV} {Gl:List (Sg×Unit)}
theorem yu.use{now:Int}(h:yu c now L Gl):∀p∈L,1<=kf p.2:=fun p a=>by
 have e:=h.inr p a;by_cases f:p.1.t= -1
 ·obtain⟨b,d,_⟩:=h.raw p a f;unfold kf;rw[if_pos b];exact d
 ·have:=h.tier p a (by have:=e.2.1;omega);unfold kf;rw[if_neg (by omega)];omega
theorem zjE:∀(l:List Int),(∀x∈l,1<=x)->(l.length:Int)<=qJ l
 |[],_=>by simp[qJ]
 |a::l,h=>by
  have c:=h a (by simp);have d:=zjE l (fun x b=>h x (by simp[b]));simp only[qJ,List.length_cons];omega
theorem zeY:∀(l:List Int) (a:Int),(∀x∈l,0<=x)->a∈l->a<=qJ l
 |[],_,_,h=>by simp at h
 |b::l,a,h,d=>by
  have e:=h b (by simp);have i:0<=qJ l:=by
   clear d e;induction l with
   |nil=>simp[qJ]
   |cons x l g=>
    have:=h x (by simp);have:=g (fun y c=>h y (by simp at c ⊢;rcases c with c|c<;>simp[c]));simp only[qJ];omega
  rcases List.mem_cons.1 d with rfl|d
  ·simp only[qJ];omega
  ·have:=zeY l a (fun x f=>h x (by simp[f])) d;simp only[qJ];omega
theorem yu.len(h:yu c now L Gl):(L.length:Int)<=zV L:=by
 have:=zjE (L.map (fun p=>kf p.2)) (fun x b=>by obtain⟨p,a,rfl⟩:=List.mem_map.1 b;exact h.use p a);simpa[zV]using this
theorem yu.len400(h:yu c now L Gl)(a:c.ok):L.length<=400:=by
 have b:=h.len;have d:=h.used;have e:=a.qu;omega
theorem yu.cnt(h:yu c now L Gl)(d:c.ok):∀p∈L,p.1.t= -1->p.2.cl.cnt<=400:=fun p a f=>by
 obtain⟨b,i,_⟩:=h.raw p a f;have j:kf p.2<=zV L:=zeY _ _ (fun x g=>by obtain⟨q,e,rfl⟩:=List.mem_map.1 g;have:=h.use q e;omega) (List.mem_map.2 ⟨p,a,rfl⟩);have k:kf p.2=p.2.cl.cnt:=by unfold kf;rw[if_pos b]
 have l:=h.used;have m:=d.qu;omega
theorem yu.u0(h:yu c now L Gl)(a:c.ok):0<=zV L/\zV L<=400:=by
 have b:=h.len;have d:=h.used;have e:=a.qu;omega
theorem yu.st(h:yu c now L Gl):∀p∈L,p.2.st≠0:=fun p a=>by
 have b:=h.inr p a;by_cases d:p.1.t= -1
 ·obtain⟨e,_⟩:=h.raw p a d;omega
 ·have:=h.tier p a (by have:=b.2.1;omega);omega
end
theorem jW{α:Type}[DecidableEq α]:∀(l m:List α),l.Nodup->(∀x∈l,x∈m)->l.length<=m.length
 |[],_,_,_=>by simp
 |a::l,m,hn,c=>by
  have b:=c a (by simp);obtain⟨f,g⟩:=List.nodup_cons.1 hn;have:=jW l (m.erase a) g (fun x d=>(List.mem_erase_of_ne (fun e=>f (by rw[<-e];exact d))).2 (c x (by simp[d])));rw[List.length_erase_of_mem b]at this;have h:0<m.length:=List.length_pos_of_mem b;simp only[List.length_cons];omega
section
variable {c:Cf} {ep:Int} {m:MS}
theorem MOk.tlen(h:MOk c ep m):m.TL.length<=2*m.L.length:=by
 have d:=jW (zk m.TL) ((zn m.L).map (fun s=>(⟨1,s⟩:Jk))++(zn m.L).map (fun s=>(⟨2,s⟩:Jk))) h.nt (fun k e=>by
  obtain⟨p,f,rfl⟩:=List.mem_map.1 (show k∈m.TL.map (·.1)from e);have a:=h.td p f;rw[a.key];cases b:p.2.rl with
  |true=>exact List.mem_append_left _ (List.mem_map.2 ⟨p.2.s,a.mem,by simp[Tsk.key,Tsk.kd,b]⟩)
  |false=>exact List.mem_append_right _ (List.mem_map.2 ⟨p.2.s,a.mem,by simp[Tsk.key,Tsk.kd,b]⟩))
 simp[zk,zn]at d;omega
theorem MOk.qlen(h:MOk c ep m):m.QL.length<=m.TL.length:=by
 have a:=jW (m.QL.map (fun q=>q.2.job)) (zk m.TL) h.jobs (fun k b=>by
  obtain⟨q,d,rfl⟩:=List.mem_map.1 b;obtain⟨x,e,_⟩:=(h.leas q d).job;exact List.mem_map.2 ⟨_,zA e,rfl⟩)
 simpa[zk]using a
theorem MOk.t800(h:MOk c ep m)(a:c.ok):m.TL.length<=800:=by have:=h.tlen;have:=h.seg.len400 a;omega
theorem MOk.q800(h:MOk c ep m)(a:c.ok):m.QL.length<=800:=by have:=h.t800 a;have:=h.qlen;omega
theorem MOk.mem_inR(h:MOk c ep m)(b:s∈zn m.L):inR c s:=by
 obtain⟨p,a,rfl⟩:=List.mem_map.1 (show s∈m.L.map (·.1)from b);exact h.seg.inr p a
theorem MOk.wfk(h:MOk c ep m):∀p∈m.TL,p.1.wf:=fun p b=>by
 have a:=h.td p b;rw[a.key];refine⟨?_,(h.mem_inR a.mem).1⟩;unfold Tsk.key Tsk.kd xz;dsimp only;split<;>omega
theorem MOk.binv(h:MOk c ep m)(b:c.ok):zmF 1000000 100000 m.TL m.QL:=by
 have e:=h.q800 b;have hn:=h.now;refine⟨fun p a=>?_,fun p a=>?_,h.wfk,by have:=h.t800 b;omega,h.nt,h.nq⟩
 ·obtain⟨x,d,_⟩:=(h.leas p a).job;exact⟨x,d⟩
 ·have:=(h.td p a).ti;omega
end
theorem zib(hn:(zn L).Nodup)(s k:Sg)(v:SV):ko (qS L s v) k=if k=s then J v else ko L k:=vd (L:=L) hn s v k
theorem zjz(hn:(zn L).Nodup)(s k:Sg)(v:SV):stL (qS L s v) k=if k=s then v else stL L k:=by
 unfold stL;rw[zib hn];split<;>rfl
theorem zqj(hn:(zn L).Nodup){p:Sg×SV}(a:p∈L):stL L p.1=p.2:=by
 unfold stL;rw[show ko L p.1=J p.2 from xt (L:=L) hn a];rfl
theorem zW(b:s∈zn L):(s,stL L s)∈L:=by
 obtain⟨v,c,a⟩:=Qv b;unfold stL;rw[c];exact a
variable {T1:List (Jk×Tsk)}
theorem K8(u:now<=n')(ht:∀p∈TL,zgZ c now L p)(nt:(zk TL).Nodup)(hl:∀q∈QL,znl c ep now num TL q)(nq:(zk QL).Nodup)(jobs:(QL.map (fun q=>q.2.job)).Nodup){d:List (Tok×Lse)}(h:YQ n' TL QL T1 d):
  (∀p∈T1,zgZ c n' L p)/\(zk T1).Nodup/\(zk d).Nodup/\(d.map (fun q=>q.2.job)).Nodup/\(∀q∈d,q∈QL)/\(∀q∈QL,n'<q.2.til->q∈d)/\(∀q∈d,∃x,zE T1 q.2.job=J x/\x.rest<=now)/\(∀k,k∈zk T1↔k∈zk TL):=by
 induction h with
 |nil=>
  refine⟨fun p v=>?_,nt,nq,jobs,fun q h=>h,fun q h _=>h,fun q h=>(hl q h).job,fun k=>Iff.rfl⟩;have:=ht p v;exact⟨this.key,this.mem,Cf.clo_mono u this.clo,this.roll,this.recl,⟨this.se.1,by have:=this.se;omega⟩,by have:=this.ti;omega⟩
 | @step T1 d t g x _ N a0 Q ih=>
  obtain⟨T,U,V,W,i5,X,Y,Z⟩:=ih;have n:=zA N;have z:=zA Q;have r:∀q∈zT d t,q.2.job≠g.job:=fun q f e=>by
   obtain⟨H,I⟩:=zS.1 f;have w:d.Pairwise (fun a b=>a.2.job≠b.2.job):=List.pairwise_map.1 W;obtain⟨i,O,F⟩:=List.getElem_of_mem H;obtain⟨j,P,B⟩:=List.getElem_of_mem n;rcases Nat.lt_trichotomy i j with o|o|o
   ·have:=List.pairwise_iff_getElem.1 w i j O P o;rw[F,B]at this;exact this e
   ·subst o;rw[F]at B;exact I (by rw[B])
   ·have:=List.pairwise_iff_getElem.1 w j i P O o;rw[F,B]at this;exact this e.symm
  have a1:x.rest<=now:=by
   obtain⟨y,M,K⟩:=Y _ n;have:y=x:=(by have:=M.symm.trans Q;injection this);rw[<-this];exact K
  refine⟨fun p v=>?_,qq U,qa V,?_,fun q f=>i5 q (zS.1 f).1,fun q f m=>?_,fun q f=>?_,fun k=>?_⟩
  ·rcases ym v with rfl|⟨v,_⟩
   ·have l:=T _ z;have hb:=XD (x.ti+1).toNat;exact⟨l.key,l.mem,l.clo,l.roll,l.recl,l.se,by have:=l.ti;simp only[Tsk.failed]at*;omega⟩
   ·exact T p v
  ·unfold zT;exact W.sublist (List.Sublist.map _ (List.filter_sublist))
  ·refine zS.2 ⟨X q f m,fun e=>?_⟩;have C:=xt V (X q f m);rw[e,N]at C;injection C with C;rw[<-C]at m;omega
  ·obtain⟨y,M,K⟩:=Y q (zS.1 f).1;refine⟨y,?_,K⟩;rw[vd U,if_neg (show¬q.2.job=⟨g.kd,g.s⟩from r q f)];exact M
  ·rw[zZ,Z k];constructor
   ·rintro(h|rfl)
    ·exact h
    ·exact(Z _).1 (List.mem_map.2 ⟨_,z,rfl⟩)
   ·exact .inl
variable {TL':List (Jk×Tsk)}
theorem MOk.exps{m:MS}(h:MOk c ep m)(hn:m.now<=n'/\n'<=100000){b:List (Tok×Lse)}(g:YQ n' m.TL m.QL TL' b)(l:∀p∈b,n'<p.2.til):
  MOk c ep {m with now:=n',TL:=TL',QL:=b}:=by
 obtain⟨o,r,s,t,u,y,v,z⟩:=K8 hn.1 h.td h.nt h.leas h.nq h.jobs g;have a:=h.seg;refine⟨⟨by have:=h.now;show 0<=n';omega,hn.2⟩,⟨a.inr,a.nl,a.raw,a.tier,a.disj,a.ng,fun p j f=>Cf.clo_mono hn.1 (a.pubc p j f),fun k i=>Cf.clo_mono hn.1 (a.goc k i),a.above,a.used⟩,o,r,fun q d=>?_,s,t,h.num⟩;have e:=h.leas q (u q d);obtain⟨x,n,w⟩:=v q d;exact⟨⟨x,n,by show x.rest<=n';omega⟩,e.ep,e.num,l q d,by have:=e.til;show q.2.til<=n'+c.le;omega⟩
theorem zkS(c:Cf)(l:c.ok)(a:Option Addr)(cap:Nat)(s:Sg)(j: -1<=s.t)(k:s.t<c.n)(h:0<=s.wn/\s.wn<=100000)(w:G)(g:TS w a c.n c.F c.W c.K):
  Calls prog 333 #[.agg #[I s.t,I s.sr,I s.wn],(cZz c a cap)] w (Rz w (I ((s.wn+1)*c.wh s.t))):=by
 obtain⟨o,p,f,r⟩:=box2 w (.cells #[I s.t,I s.sr,I s.wn] 195) (.cells (aZz c a cap) 89);have m:=fun W q=>ze (JS c l a cap s.t s.wn j k h W (g.below (w':=W) q));have b:=ze f;clear g l h f o p;go_enter func333,ntmps333;go_wp2_with(first|(go_at_call 180;refine(ud (m _ (ud b))).mono ?_;rintro e u ⟨rfl,d⟩;have i:=ze d;clear d));go_ret;exact⟨rfl,(ud b).trans ((ud i).mono (ud b).size)⟩
theorem zcT(c:Cf)(l:c.ok)(a:Option Addr)(cap:Nat)(s:Sg)(j: -1<=s.t)(k:s.t<c.n)(h:0<=s.wn/\s.wn<=100000)(w:G)(g:TS w a c.n c.F c.W c.K):
  Calls prog 336 #[.agg #[I s.t,I s.sr,I s.wn],(cZz c a cap)] w (Rz w (I ((s.wn+1)*c.wh s.t+c.keep s.t))):=by
 obtain⟨o,p,f,r⟩:=box2 w (.cells #[I s.t,I s.sr,I s.wn] 197) (.cells (aZz c a cap) 89);have m:=fun W q=>ze (zbB c l a cap s.t s.wn j k h W (g.below (w':=W) q));have b:=ze f;clear g l h f o p;go_enter func336,ntmps336;go_wp2_with(first|(go_at_call 177;refine(ud (m _ (ud b))).mono ?_;rintro e u ⟨rfl,d⟩;have i:=ze d;clear d));go_ret;exact⟨rfl,(ud b).trans ((ud i).mono (ud b).size)⟩
theorem zgg{b:Nat}(h:zC w b c (.slice a c.n cap) ep num tb qb TL QL)(r:c.ok)(m:TS w a c.n c.F c.W c.K)(s:Sg)(se ti rest now:Int)(e: -1<=s.t)(f:s.t<c.n)(q:0<=s.wn/\s.wn<=100000)(T:0<=now/\now<=100000)(a4:0<=se/\se<=now)(g i:Nat)(l1:g<w.1.size)(l2:i<w.1.size)(P:w.cell? (U g 0)=J (O b))(Q:w.cell? (U i 0)=J (I now)):
  Calls prog 160 #[.agg #[.iface 195 (.agg #[I s.t,I s.sr,I s.wn]),I se,I ti,I rest],(O g),(O i)] w (Rz w (I ((s.wn+1)*c.wh s.t-(now-se)/4))):=by
 have a0:=h.lt;have d:D w.1.size w (w.alloc (.cells #[.iface 195 (.agg #[I s.t,I s.sr,I s.wn]),I se,I ti,I rest] 177)):=(S _ _).alloc (E _) _;have L:=zq w (.cells #[.iface 195 (.agg #[I s.t,I s.sr,I s.wn]),I se,I ti,I rest] 177);have M:=zM w (.cells #[.iface 195 (.agg #[I s.t,I s.sr,I s.wn]),I se,I ti,I rest] 177);have H:=fun W hW=>ze (zkS c r a cap s e f q W (m.below (w':=W) hW));have hm:=JX s;have hR:0<=(s.wn+1)*c.wh s.t/\(s.wn+1)*c.wh s.t<=1000000000:=by
  obtain⟨a5,C⟩:=r.wh e f;obtain⟨a1,a2⟩:=r.keeps e f;have h1:=Int.mul_nonneg (show 0<=s.wn+1 by omega) (show 0<=c.wh s.t by omega);have h2:=Int.mul_le_mul (show s.wn+1<=100001 by omega) C (by omega) (by omega);omega
 obtain⟨v,V⟩:∃v,(s.wn+1)*c.wh s.t=v:=⟨_,rfl⟩;simp only[V]at H hR ⊢;have hq:Int.tdiv (now-se) 4=(now-se)/4:=Int.tdiv_eq_ediv_of_nonneg (by omega);have a3:0<=(now-se)/4/\(now-se)/4<=100000:=by omega
 have Y:=((h.later d)).head;obtain⟨k0,k1,-⟩:=zc L;have m1:=(d.cell (p:=(U g 0)) l1).trans P;have m2:=(d.cell (p:=(U i 0)) l2).trans Q;obtain⟨y0,y1,y2,y3,y4,y5,y6,-⟩:=zc Y;have j:=ze d;have Z:=ze M;have HQ:=ze hq;clear h m r q P Q Y L M d V;go_enter func160,ntmps160;go_wp2_with fail;have q1:w.1.size<w.1.size+1:=by omega
 have q2:g<w.1.size+1:=by omega
 have q3:i<w.1.size+1:=by omega
 have q4:b<w.1.size+1:=by omega
 generalize(w.alloc (.cells #[.iface 195 (.agg #[I s.t,I s.sr,I s.wn]),I se,I ti,I rest] 177))=X at*;generalize hN:w.1.size+1=N at*;have B:Nonempty (xg N X):=xg.some _ _;have z:=fun(u:xg N X) b o h=>u.cell b o h;have l:N<=X.1.size:=by rw[ud Z];exact E _
 have x:=ze l;have k:Hid (w.1.size<=N):=by show w.1.size<=N;omega
 clear l hN;refine zy N (by kernel_rfl) (by kernel_rfl) ?_;repeat(go_big_quiet_step (first
  |(go_at_call 333;exact Calls.later (ud x) (ud (H _ ((ud j).trans (Below.mono (Subtype.property _) (ud k))))))))
 refine wpQuiet_nil ?_;rintro⟨w1,y⟩;clear z B;dsimp only;go_wp2_with fail;go_ret;exact⟨by first|rfl|rw[ud HQ],(ud j).trans (y.mono (ud k))⟩
theorem zag{b:Nat}(h:zC w b c (.slice a c.n cap) ep num tb qb TL QL)(r:c.ok)(m:TS w a c.n c.F c.W c.K)(s:Sg)(se ti rest now:Int)(e: -1<=s.t)(f:s.t<c.n)(q:0<=s.wn/\s.wn<=100000)(T:0<=now/\now<=100000)(a4:0<=se/\se<=now)(g i:Nat)(l1:g<w.1.size)(l2:i<w.1.size)(P:w.cell? (U g 0)=J (O b))(Q:w.cell? (U i 0)=J (I now)):
  Calls prog 160 #[.agg #[.iface 197 (.agg #[I s.t,I s.sr,I s.wn]),I se,I ti,I rest],(O g),(O i)] w (Rz w (I ((s.wn+1)*c.wh s.t+c.keep s.t-(now-se)/4))):=by
 have a0:=h.lt;have d:D w.1.size w (w.alloc (.cells #[.iface 197 (.agg #[I s.t,I s.sr,I s.wn]),I se,I ti,I rest] 177)):=(S _ _).alloc (E _) _;have L:=zq w (.cells #[.iface 197 (.agg #[I s.t,I s.sr,I s.wn]),I se,I ti,I rest] 177);have M:=zM w (.cells #[.iface 197 (.agg #[I s.t,I s.sr,I s.wn]),I se,I ti,I rest] 177);have H:=fun W hW=>ze (zcT c r a cap s e f q W (m.below (w':=W) hW));have hm:=Yo s;have hR:0<=(s.wn+1)*c.wh s.t+c.keep s.t/\(s.wn+1)*c.wh s.t+c.keep s.t<=1000000000:=by
  obtain⟨a5,C⟩:=r.wh e f;obtain⟨a1,a2⟩:=r.keeps e f;have h1:=Int.mul_nonneg (show 0<=s.wn+1 by omega) (show 0<=c.wh s.t by omega);have h2:=Int.mul_le_mul (show s.wn+1<=100001 by omega) C (by omega) (by omega);omega
 obtain⟨v,V⟩:∃v,(s.wn+1)*c.wh s.t+c.keep s.t=v:=⟨_,rfl⟩;simp only[V]at H hR ⊢;have hq:Int.tdiv (now-se) 4=(now-se)/4:=Int.tdiv_eq_ediv_of_nonneg (by omega);have a3:0<=(now-se)/4/\(now-se)/4<=100000:=by omega
 have Y:=((h.later d)).head;obtain⟨k0,k1,-⟩:=zc L;have m1:=(d.cell (p:=(U g 0)) l1).trans P;have m2:=(d.cell (p:=(U i 0)) l2).trans Q;obtain⟨y0,y1,y2,y3,y4,y5,y6,-⟩:=zc Y;have j:=ze d;have Z:=ze M;have HQ:=ze hq;clear h m r q P Q Y L M d V;go_enter func160,ntmps160;go_wp2_with fail;have q1:w.1.size<w.1.size+1:=by omega
 have q2:g<w.1.size+1:=by omega
 have q3:i<w.1.size+1:=by omega
 have q4:b<w.1.size+1:=by omega
 generalize(w.alloc (.cells #[.iface 197 (.agg #[I s.t,I s.sr,I s.wn]),I se,I ti,I rest] 177))=X at*;generalize hN:w.1.size+1=N at*;have B:Nonempty (xg N X):=xg.some _ _;have z:=fun(u:xg N X) b o h=>u.cell b o h;have l:N<=X.1.size:=by rw[ud Z];exact E _
 have x:=ze l;have k:Hid (w.1.size<=N):=by show w.1.size<=N;omega
 clear l hN;refine zy N (by kernel_rfl) (by kernel_rfl) ?_;repeat(go_big_quiet_step (first
  |(go_at_call 336;exact Calls.later (ud x) (ud (H _ ((ud j).trans (Below.mono (Subtype.property _) (ud k))))))))
 refine wpQuiet_nil ?_;rintro⟨w1,y⟩;clear z B;dsimp only;go_wp2_with fail;go_ret;exact⟨by first|rfl|rw[ud HQ],(ud j).trans (y.mono (ud k))⟩
theorem ja(h:qd c.s c.le c.la c.wi c.ke c.qu c.n c.F c.W c.K=true):c.ok:=by
 unfold qd at h;simp only[Bool.and_eq_true,jk,ZM]at h;obtain⟨⟨⟨⟨⟨⟨⟨⟨d,e⟩,f⟩,g⟩,j⟩,k⟩,m⟩,l⟩,o⟩:=h;have b:∀i,i<c.n->(-1<=c.F i/\c.F i<=(c.n:Int)-1)/\(1<=c.W i/\c.W i<=1000)/\(0<=c.K i/\c.K i<=1000):=fun i a=>by
  have:=l i a;unfold ZH at this;simp only[Bool.and_eq_true,jk]at this;exact⟨this.1.1,this.1.2,this.2⟩
 exact⟨by omega,by omega,g.1,by omega,fun i a=>(b i a).2.1,fun i a=>by have:=(b i a).1;omega,fun i a=>(b i a).2.2,j,f,k,d,e⟩
structure je(wi:Int)(k:Nat)(F W K:Nat->Int):Prop where
 tF:∀i,i<k-> -1<=F i/\F i<i
 tW:∀i,i<k->1<=W i/\W i<=1000
 tQ:∀i,i<k->∃q:Int,1<=q/\W i=zQ wi W (F i)*q
 tK:∀i,i<k->0<=K i/\K i<=1000
def ZJ(F:Nat->Int)(k:Nat)(v:Int):Nat->Int:=fun j=>if j=k then v else F j
theorem QQ(F:Nat->Int)(k:Nat)(v:Int):ZJ F k v k=v:=by simp[ZJ]
theorem XJ(F:Nat->Int){j:Nat}(v:Int)(h:j≠k):ZJ F k v j=F j:=by simp[ZJ,h]
theorem Vg{v:Int}(a: -1<=f)(b:f<k):zQ wi (ZJ W k v) f=zQ wi W f:=by
 unfold zQ;split
 ·rfl
 ·rw[XJ];omega
theorem je.none(wi:Int)(F W K:Nat->Int):je wi 0 F W K:=⟨fun i h=>by omega,fun i h=>by omega,fun i h=>by omega,fun i h=>by omega⟩
theorem je.more(h:je wi k F W K){p:Int}(b: -1<=f)(c:f<k)(d:1<=q)(g:1<=zQ wi W f*q)(j:zQ wi W f*q<=1000)(l:0<=p/\p<=1000):
  je wi (k+1) (ZJ F k f) (ZJ W k (zQ wi W f*q)) (ZJ K k p):=by
 refine⟨fun i a=>?_,fun i a=>?_,fun i a=>?_,fun i a=>?_⟩
 ·by_cases e:i=k
  ·subst e;rw[QQ];exact⟨b,c⟩
  ·rw[XJ _ _ e];exact h.tF i (by omega)
 ·by_cases e:i=k
  ·subst e;rw[QQ];exact⟨g,j⟩
  ·rw[XJ _ _ e];exact h.tW i (by omega)
 ·by_cases e:i=k
  ·subst e;rw[QQ,QQ,Vg b c];exact⟨q,d,rfl⟩
  ·have m:=h.tF i (by omega);rw[XJ _ _ e,XJ _ _ e,Vg m.1 (by omega)];exact h.tQ i (by omega)
 ·by_cases e:i=k
  ·subst e;rw[QQ];exact l
  ·rw[XJ _ _ e];exact h.tK i (by omega)
theorem je.wh(h:je wi k F W K)(a:1<=wi/\wi<=1000)(b: -1<=f)(c:f<k):1<=zQ wi W f/\zQ wi W f<=1000:=by
 unfold zQ;split
 ·exact a
 ·exact h.tW _ (by omega)
theorem zcS{F:Nat->Int}{n:Nat}(h:∀i,i<n-> -1<=F i/\F i<i):∀(k:Nat) (t:Int),0<=t->t<n->t<k->down F k t=true
 |0,t,a,b,c=>by omega
 |k+1,t,a,b,c=>by
  rw[down];have d:=h t.toNat (by omega);by_cases e:F t.toNat= -1
  ·simp[e]
  ·rw[zcS h k (F t.toNat) (by omega) (by omega) (by omega)];simp
theorem zan(p:1<=c.s/\c.s<=4)(f:1<=c.le/\c.le<=100)(e:0<=c.la/\c.la<=100)(k:1<=c.wi/\c.wi<=50)(d:0<=c.ke/\c.ke<=1000)(j:1<=c.qu/\c.qu<=400)(hn:1<=c.n/\c.n<=4)(h:je c.wi c.n c.F c.W c.K):
  qd c.s c.le c.la c.wi c.ke c.qu c.n c.F c.W c.K=true/\c.fits:=by
 constructor
 ·unfold qd;simp only[Bool.and_eq_true,jk,ZM];refine⟨⟨⟨⟨⟨⟨⟨⟨p,f⟩,e⟩,k⟩,d⟩,j⟩,by omega⟩,fun i a=>?_⟩,fun i a=>?_⟩
  ·unfold ZH;simp only[Bool.and_eq_true,jk];have:=h.tF i a;exact⟨⟨by omega,h.tW i a⟩,h.tK i a⟩
  ·unfold zgP;simp only[Bool.and_eq_true,beq_iff_eq];obtain⟨q,_,g⟩:=h.tQ i a;exact⟨by rw[g];exact Int.mul_emod_right _ _,zcS h.tF c.n i (by omega) (by omega) (by omega)⟩
 ·have r:=h.tF 0 (by omega);obtain⟨m,l⟩:=Cf.b_of (c:=c) ⟨0,by omega,by omega⟩;obtain⟨q,o,g⟩:=h.tQ c.b m;exact⟨m,l,⟨q,o,by rw[g,l];simp[zQ]⟩,fun i a=>by have:=h.tF i a;omega,h.tQ,fun i a=>zcS h.tF c.n i (by omega) (by omega) (by omega)⟩
theorem KP(k:Nat)(F W K:Nat->Int)(f w p:Int):ZC (k+1) (ZJ F k f) (ZJ W k w) (ZJ K k p)=ZC k F W K++[I f,I w,I p]:=by
 have e:(k+1)*3=k*3+1+1+1:=by omega
 unfold ZC;rw[e,List.range_succ,List.range_succ,List.range_succ];simp only[List.map_append,List.map_cons,List.map_nil,List.append_assoc];have g:(List.range (k*3)).map (Zl (ZJ F k f) (ZJ W k w) (ZJ K k p))=(List.range (k*3)).map (Zl F W K):=by
  apply List.map_congr_left;intro j h;have i:j<k*3:=by simpa using h
  unfold Zl;have a:j/3≠k:=by omega
  simp only[XJ _ _ a]
 rw[g];have b:k*3/3=k:=by omega
 have c:(k*3+1)/3=k:=by omega
 have d:(k*3+1+1)/3=k:=by omega
 have l:k*3%3=0:=by omega
 have m:(k*3+1)%3=1:=by omega
 have n:(k*3+1+1)%3=2:=by omega
 unfold Zl;simp[b,c,d,l,m,n,QQ]
def yp(now:Int)(TL:List (Jk×Tsk))(s:Sg):List (Jk×Tsk):=match zE TL ⟨1,s⟩with|some _=>TL|none=>qj TL ⟨1,s⟩ ⟨true,s,now,0,0⟩
def yS(now:Int)(TL:List (Jk×Tsk))(s:Sg):List (Jk×Tsk):=match zE TL ⟨2,s⟩with|some _=>TL|none=>qj TL ⟨2,s⟩ ⟨false,s,now,0,0⟩
section
variable {c:Cf} {now:Int} {L:LV}
structure Zh(c:Cf)(now:Int)(L:LV)(TL T1:List (Jk×Tsk)):Prop where
 ok:∀p∈T1,zgZ c now L p
 nt:(zk T1).Nodup
 old:∀k x,zE TL k=J x->zE T1 k=J x
theorem zeD(h:Zh c now L TL T1)(hn:0<=now){k:Jk}(d:zE T1 k=A)(f:zgZ c now L (k,x)):Zh c now L TL (qj T1 k x):=by
 refine⟨fun p a=>?_,qq h.nt,fun j y b=>?_⟩
 ·rcases ym a with rfl|⟨a,_⟩
  ·exact f
  ·exact h.ok p a
 ·have:=h.old j y b;rw[vd h.nt,if_neg (fun e=>by rw[e,d]at this;cases this)];exact this
theorem zlB(h:Zh c now L TL T1)(hn:0<=now)(b:s∈zn L)(d:c.clo now s)(f:(stL L s).st=2):Zh c now L TL (yp now T1 s)/\∀k,k∈zk (yp now T1 s)↔k∈zk T1\/k=⟨1,s⟩:=by
 unfold yp;cases a:zE T1 ⟨1,s⟩with
 |some x=>exact⟨h,fun k=>⟨.inl,fun e=>e.elim id (fun e=>by rw[e];exact List.mem_map.2 ⟨_,zA a,rfl⟩)⟩⟩
 |none=>exact⟨zeD h hn a ⟨rfl,b,d,fun _=>f,fun e=>by simp at e,⟨hn,Int.le_refl _⟩,by dsimp only;omega⟩,fun k=>zZ⟩
theorem zlA(h:Zh c now L TL T1)(hn:0<=now)(b:s∈zn L)(d:c.clo now s)(f:(stL L s).st≠2):Zh c now L TL (yS now T1 s)/\∀k,k∈zk (yS now T1 s)↔k∈zk T1\/k=⟨2,s⟩:=by
 unfold yS;cases a:zE T1 ⟨2,s⟩with
 |some x=>exact⟨h,fun k=>⟨.inl,fun e=>e.elim id (fun e=>by rw[e];exact List.mem_map.2 ⟨_,zA a,rfl⟩)⟩⟩
 |none=>exact⟨zeD h hn a ⟨rfl,b,d,fun e=>by simp at e,fun _=>f,⟨hn,Int.le_refl _⟩,by dsimp only;omega⟩,fun k=>zZ⟩
theorem zbT(hn:0<=now):∀(a:List Sg) {TL T1:List (Jk×Tsk)},Zh c now L TL T1->(∀s∈a,s∈zn L/\c.clo now s/\(stL L s).st=2)->Zh c now L TL (a.foldl (yp now) T1)/\∀k,k∈zk (a.foldl (yp now) T1)↔k∈zk T1\/∃s∈a,k=⟨1,s⟩
 |[],TL,T1,h,_=>⟨h,fun k=>by simp⟩
 |s::a,TL,T1,h,b=>by
  obtain⟨d,e,f⟩:=b s (by simp);obtain⟨g,i⟩:=zlB h hn d e f;obtain⟨j,l⟩:=zbT hn a g (fun x m=>b x (by simp[m]));refine⟨j,fun k=>?_⟩;show k∈zk (a.foldl (yp now) (yp now T1 s))↔_;rw[l k,i k];simp[or_assoc]
theorem zbR(hn:0<=now):∀(a:List Sg) {TL T1:List (Jk×Tsk)},Zh c now L TL T1->(∀s∈a,s∈zn L/\c.clo now s/\(stL L s).st≠2)->Zh c now L TL (a.foldl (yS now) T1)/\∀k,k∈zk (a.foldl (yS now) T1)↔k∈zk T1\/∃s∈a,k=⟨2,s⟩
 |[],TL,T1,h,_=>⟨h,fun k=>by simp⟩
 |s::a,TL,T1,h,b=>by
  obtain⟨d,e,f⟩:=b s (by simp);obtain⟨g,i⟩:=zlA h hn d e f;obtain⟨j,l⟩:=zbR hn a g (fun x m=>b x (by simp[m]));refine⟨j,fun k=>?_⟩;show k∈zk (a.foldl (yS now) (yS now T1 s))↔_;rw[l k,i k];simp[or_assoc]
end
theorem znJ(m:c.ok)(n:c.fits){k:Sg}(o:k.t= -1)(h:c.clo now ⟨(c.b:Int),k.sr,k.wn*c.wi/c.W c.b⟩):c.clo now k:=by
 obtain⟨q,u,d⟩:=n.div0;have p:=m.wi1;have g:c.wh (c.b:Int)=c.W c.b:=by unfold Cf.wh zQ;rw[if_neg (by omega)];simp
 have i:c.wh (-1)=c.wi:=by unfold Cf.wh zQ;rw[if_pos rfl]
 unfold Cf.clo at*;rw[g]at h;rw[o,i];have f:0<c.W c.b:=by rw[d];exact Int.mul_pos (by omega) (by omega)
 have j:k.wn*c.wi<(k.wn*c.wi/c.W c.b+1)*c.W c.b:=Int.lt_ediv_add_one_mul_self _ f;generalize k.wn*c.wi/c.W c.b=a at*;have l:k.wn*c.wi<((a+1)*q)*c.wi:=by
  have e:(a+1)*c.W c.b=((a+1)*q)*c.wi:=by rw[d,Int.mul_comm c.wi q,<-Int.mul_assoc]
  rw[<-e];exact j
 have r:k.wn<(a+1)*q:=Int.lt_of_mul_lt_mul_right l (by omega);have s:(k.wn+1)*c.wi<=((a+1)*q)*c.wi:=Int.mul_le_mul_of_nonneg_right (by omega) (by omega);have e:(a+1)*c.W c.b=((a+1)*q)*c.wi:=by rw[d,Int.mul_comm c.wi q,<-Int.mul_assoc]
 rw[e]at h;omega
theorem zeJ(j:c.ok)(m:c.fits){Gl:List (Sg×Unit)}(h:yu c now L Gl){k:Sg}(v:k∈zn L)(n:yT c L now k=true):c.clo now k/\(stL L k).st≠2:=by
 have f:=zW v;have e:=h.inr _ f;unfold yT at n;simp only[Bool.and_eq_true,Bool.not_eq_true',beq_eq_false_iff_ne,ne_eq,decide_eq_true_eq]at n;obtain⟨⟨p,F⟩,q⟩:=n;refine⟨?_,p⟩;by_cases g:k.t= -1
 ·have z:=j.n1;have u:(⟨(c.b:Int),k.sr,k.wn*c.wi/c.W c.b⟩:Sg)∈yw c k:=by
   have o:c.wh k.t=c.wi:=(by rw[g];unfold Cf.wh zQ;rw[if_pos rfl]);unfold yw VD;rw[o,List.map_map];exact List.mem_map.2 ⟨c.b,List.mem_filter.2 ⟨by simpa using m.bn,by simp[m.from0,g]⟩,rfl⟩
  have l:c.clo now ⟨(c.b:Int),k.sr,k.wn*c.wi/c.W c.b⟩:=by
   rcases h.above _ f g with i|i
   ·have d:=zW i;rcases h.tier _ d (by show(0:Int)<=(c.b:Int);omega)with a|a
    ·exfalso;unfold Zs at q;have s:((kO c k).filter (fun x=>(stL L x.1).st==2)).length=0:=by
      have:=of_decide_eq_true (show decide ((((kO c k).filter (fun x=>(stL L x.1).st==2)).length:Int)=0)=true from by simpa using q)
      omega
     have w:=(jB j e ⟨(c.b:Int),k.sr,k.wn*c.wi/c.W c.b⟩).2 u;obtain⟨y,B,r⟩:=List.mem_map.1 w;have:y∈(kO c k).filter (fun x=>(stL L x.1).st==2):=List.mem_filter.2 ⟨B,by rw[r];simpa using a⟩;rw[List.eq_nil_of_length_eq_zero s]at this;simp at this
    ·exact h.pubc _ d a
   ·exact h.goc _ i
  exact znJ j m g l
 ·rcases h.tier _ f (by have C: -1<=k.t:=e.2.1;show 0<=k.t;omega)with a|a
  ·exact absurd a p
  ·exact h.pubc _ f a
theorem zeK{b:List (Sg×Unit)}{k:Sg}(a:yU c b L now k=true):c.clo now k/\(stL L k).st=2:=by
 unfold yU at a;simp only[Bool.and_eq_true,beq_iff_eq,decide_eq_true_eq]at a;exact⟨a.2,a.1.2⟩
structure xB(c:Cf)(m:MS)(TL':List (Jk×Tsk)):Prop where
 tO:∃(Bs:List (Sg×Unit)) (ys1 ys2:List Sg),(∀x,x∈zk Bs↔∃k,k∈zn m.L/\(stL m.L k).st=2/\x∈yw c k)/\(∀s,s∈ys1↔s∈zn m.L/\yU c Bs m.L m.now s=true)/\(∀s,s∈ys2↔s∈zn m.L/\yT c m.L m.now s=true)/\TL'=ys2.foldl (yS m.now) (ys1.foldl (yp m.now) m.TL)
theorem MOk.post{m:MS}(p:c.ok)(r:c.fits)(h:MOk c ep m)(u:xB c m TL'):
  MOk c ep {m with TL:=TL'}/\(∀k,k∈zk m.TL->k∈zk TL')/\(∀s,s∈zn m.L->yT c m.L m.now s=true->(⟨2,s⟩:Jk)∈zk TL'):=by
 obtain⟨B,i,j,C,l,b,rfl⟩:=u.tO;have o:Zh c m.now m.L m.TL m.TL:=⟨h.td,h.nt,fun _ _ e=>e⟩;obtain⟨y,z⟩:=zbT h.now.1 i o (fun s a=>⟨((l s).1 a).1,zeK ((l s).1 a).2⟩);obtain⟨g,n⟩:=zbR h.now.1 j y (fun s a=>⟨((b s).1 a).1,zeJ p r h.seg ((b s).1 a).1 ((b s).1 a).2⟩);refine⟨⟨h.now,h.seg,g.ok,g.nt,fun q v=>?_,h.nq,h.jobs,h.num⟩,fun k t=>(n k).2 (.inl ((z k).2 (.inl t))),fun s a f=>(n _).2 (.inr ⟨s,(b s).2 ⟨a,f⟩,rfl⟩)⟩;have d:=h.leas q v;obtain⟨x,w,f⟩:=d.job;exact⟨⟨x,g.old _ _ w,f⟩,d.ep,d.num,d.til⟩
section
variable {c:Cf} {ep:Int} {m:MS}
theorem zlm(hn:(QL.map (fun q=>q.2.job)).Nodup){q:Tok×Lse}(l:p∈QL)(m:q∈QL)(e:p.2.job=q.2.job):p=q:=by
 have d:QL.Pairwise (fun a b=>a.2.job≠b.2.job):=List.pairwise_map.1 hn;obtain⟨i,h,f⟩:=List.getElem_of_mem l;obtain⟨j,k,g⟩:=List.getElem_of_mem m;rcases Nat.lt_trichotomy i j with c|c|c
 ·have:=List.pairwise_iff_getElem.1 d i j h k c;rw[f,g]at this;exact absurd e this
 ·subst c;rw[<-f,g]
 ·have:=List.pairwise_iff_getElem.1 d j i k h c;rw[f,g]at this;exact absurd e.symm this
theorem ZQ(hn:(QL.map (fun q=>q.2.job)).Nodup)(t:Tok):((zT QL t).map (fun q=>q.2.job)).Nodup:=by
 unfold zT;exact hn.sublist (List.Sublist.map _ (List.filter_sublist))
theorem Zv(hn:(QL.map (fun q=>q.2.job)).Nodup)(c:(t,g)∈QL){q:Tok×Lse}(d:q∈zT QL t):q.2.job≠g.job:=fun e=>by
 obtain⟨a,b⟩:=zS.1 d;exact b (by rw[zlm hn a c e])
theorem MOk.failed(h:MOk c ep m)(n:zE m.QL t=J g)(l:zE m.TL g.job=J x):
  MOk c ep {m with TL:=qj m.TL g.job (x.failed m.now),QL:=zT m.QL t}:=by
 have b:=zA n;have i:=zA l;have o:x.rest<=m.now:=by
  obtain⟨y,j,f⟩:=(h.leas _ b).job;have:y=x:=by have:=j.symm.trans l;injection this
  rw[<-this];exact f
 have r:=XD (x.ti+1).toNat;have a:=h.td _ i;refine⟨h.now,h.seg,fun p e=>?_,qq h.nt,fun q k=>?_,qa h.nq,ZQ h.jobs t,h.num⟩
 ·rcases ym e with rfl|⟨e,_⟩
  ·exact⟨a.key,a.mem,a.clo,a.roll,a.recl,a.se,by have:=a.ti;simp only[Tsk.failed]at*;omega⟩
  ·exact h.td p e
 ·have d:=h.leas q (zS.1 k).1;obtain⟨y,j,f⟩:=d.job;refine⟨⟨y,?_,f⟩,d.ep,d.num,d.til⟩;rw[vd h.nt,if_neg (Zv h.jobs b k)];exact j
theorem MOk.picked(h:MOk c ep m)(r:c.ok){k:Jk}(o:zE m.TL k=J x)(w:x.rest<=m.now)(l:kr m.QL x.key=false)(slot:Int):
  MOk c ep {m with num:=m.num+1,QL:=qj m.QL ⟨ep,m.num+1⟩ ⟨x.kd,x.s,slot,m.now+c.le⟩}/\(⟨ep,m.num+1⟩:Tok)∉zk m.QL/\(∀q∈m.QL,q.2.job≠x.key):=by
 have f:(⟨ep,m.num+1⟩:Tok)∉zk m.QL:=fun v=>by
  obtain⟨q,d,e⟩:=List.mem_map.1 v;have:=(h.leas q d).num;rw[e]at this;dsimp only at this;omega
 have i:∀q∈m.QL,q.2.job≠x.key:=fun q d e=>by
  unfold kr at l;rw[List.any_eq_false]at l;exact l q d (by simpa[Lse.job]using e)
 have j:qj m.QL ⟨ep,m.num+1⟩ ⟨x.kd,x.s,slot,m.now+c.le⟩=m.QL++[(⟨ep,m.num+1⟩,⟨x.kd,x.s,slot,m.now+c.le⟩)]:=by unfold qj;rw[if_neg f]
 have t:=(h.td _ (zA o)).key;have u:=r.le;refine⟨⟨h.now,h.seg,h.td,h.nt,fun q d=>?_,qq h.nq,?_,by have:=h.num;show 0<=m.num+1;omega⟩,f,i⟩
 ·rcases ym d with rfl|⟨d,_⟩
  ·refine⟨⟨x,?_,w⟩,rfl,⟨by have:=h.num;show 1<=m.num+1;omega,Int.le_refl _⟩,by show m.now<m.now+c.le;omega,Int.le_refl _⟩;show zE m.TL x.key=J x;rw[<-t];exact o
  ·have g:=h.leas q d;exact⟨g.job,g.ep,⟨g.num.1,by have:=g.num.2;show q.1.num<=m.num+1;omega⟩,g.til⟩
 ·show((qj m.QL ⟨ep,m.num+1⟩ ⟨x.kd,x.s,slot,m.now+c.le⟩).map (fun q=>q.2.job)).Nodup;rw[j,List.map_append,List.nodup_append];refine⟨h.jobs,by simp,fun a p b n=>?_⟩;obtain⟨q,d,rfl⟩:=List.mem_map.1 p;simp only[List.map_cons,List.map_nil,List.mem_singleton]at n;subst n;exact i q d
theorem MOk.other_seg(h:MOk c ep m){k:Jk}(o:zE m.TL k=J x){p:Jk×Tsk}(n:p∈zT m.TL k):p.2.s≠x.s:=fun e=>by
 obtain⟨l,d⟩:=zS.1 n;have g:=h.td p l;have j:=h.td _ (zA o);have b:k=x.key:=j.key;cases i:p.2.rl with
 |true=>
  have a:=g.roll i;rw[e]at a;cases f:x.rl with
  |true=>exact d (by rw[g.key,b];simp[Tsk.key,Tsk.kd,i,f,e])
  |false=>exact j.recl f a
 |false=>
  have a:=g.recl i;rw[e]at a;cases f:x.rl with
  |true=>exact a (j.roll f)
  |false=>exact d (by rw[g.key,b];simp[Tsk.key,Tsk.kd,i,f,e])
theorem MOk.done_leas(h:MOk c ep m)(d:zE m.QL t=J g):∀q∈zT m.QL t,znl c ep m.now m.num (zT m.TL g.job) q:=fun q b=>by
 have a:=h.leas q (zS.1 b).1;obtain⟨y,f,e⟩:=a.job;refine⟨⟨y,?_,e⟩,a.ep,a.num,a.til⟩;rw[jR h.nt,if_neg (Zv h.jobs (zA d) b)];exact f
theorem Jo(hn:(zn L).Nodup){u:SV}(a:(s,u)∈L)(f:SV->Int):qJ ((qS L s v).map (fun p=>f p.2))=qJ (L.map (fun p=>f p.2))-f u+f v:=by
 unfold qS;rw[if_pos (show s∈zn L from List.mem_map.2 ⟨_,a,rfl⟩)];exact Vb f hn a
theorem zjI{s:Sg}{u:SV}(f:SV->Int):∀{L:LV},(zn L).Nodup->(s,u)∈L->qJ ((zT L s).map (fun p=>f p.2))=qJ (L.map (fun p=>f p.2))-f u
 |[],_,h=>by simp at h
 |p::L,hn,h=>by
  obtain⟨b,c⟩:=List.nodup_cons.1 (show(p.1::zn L).Nodup from hn);rcases List.mem_cons.1 h with rfl|h
  ·have e:zT ((s,u)::L) s=L:=by
    unfold zT;rw[List.filter_cons,if_neg (by simp)];refine List.filter_eq_self.2 (fun q d=>?_);simp only[decide_eq_true_eq];exact fun e=>b (List.mem_map.2 ⟨q,d,e⟩)
   rw[e];simp only[List.map_cons,qJ];omega
  ·have a:p.1≠s:=fun e=>b (List.mem_map.2 ⟨_,h,e.symm⟩);have e:zT (p::L) s=p::zT L s:=(by unfold zT;rw[List.filter_cons,if_pos (by simpa using a)]);have g:=zjI f c h;rw[e];simp only[List.map_cons,qJ,g];omega
theorem MOk.rolled(h:MOk c ep m)(C:zE m.QL t=J g)(z:zE m.TL g.job=J x)(F:x.rl=true)(cl:Cl):
  MOk c ep {m with L:=qS m.L x.s ⟨3,cl⟩,TL:=zT m.TL g.job,QL:=zT m.QL t}/\(∀f:SV->Int,qJ ((qS m.L x.s ⟨3,cl⟩).map (fun p=>f p.2))=qJ (m.L.map (fun p=>f p.2))-f (stL m.L x.s)+f ⟨3,cl⟩)/\(stL m.L x.s).st=2/\x.s∈zn m.L:=by
 have o:=h.td _ (zA z);have r:(x.s,stL m.L x.s)∈m.L:=zW o.mem;have y:(stL m.L x.s).st=2:=o.roll F;have j:=fun f:SV->Int=>Jo (v:=⟨3,cl⟩) h.seg.nl r f;have b:=h.seg;have q:x.s.t≠ -1:=fun e=>by have I:(stL m.L x.s).st=1:=(b.raw _ r e).1;omega
 have d:∀k,k∈zn (qS m.L x.s ⟨3,cl⟩)↔k∈zn m.L:=fun k=>by
  rw[xN];exact⟨fun e=>e.elim id (fun e=>e▸o.mem),.inl⟩
 refine⟨⟨h.now,⟨fun p a=>?_,yo b.nl,fun p a n=>?_,fun p a n=>?_,fun p a=>?_,b.ng,fun p a B=>?_,b.goc,fun p a n=>?_,?_⟩,fun p a=>?_,qa h.nt,h.done_leas C,qa h.nq,ZQ h.jobs t,h.num⟩,j,y,o.mem⟩
 ·rcases qv a with rfl|⟨a,_⟩
  ·exact(show inR c x.s from b.inr _ r)
  ·exact b.inr p a
 ·rcases qv a with rfl|⟨a,_⟩
  ·exact absurd n q
  ·exact b.raw p a n
 ·rcases qv a with rfl|⟨a,_⟩
  ·exact .inr rfl
  ·exact b.tier p a n
 ·rcases qv a with rfl|⟨a,_⟩
  ·exact(show x.s∉zk m.Gl from b.disj _ r)
  ·exact b.disj p a
 ·rcases qv a with rfl|⟨a,_⟩
  ·exact o.clo
  ·exact b.pubc p a B
 ·rcases qv a with rfl|⟨a,_⟩
  ·exact absurd n q
  ·rcases b.above p a n with u|u
   ·exact .inl ((d _).2 u)
   ·exact .inr u
 ·have:=j kf;have K:kf (stL m.L x.s)=2:=by unfold kf;rw[if_neg (by omega)]
  have H:kf ⟨3,cl⟩=2:=by unfold kf;rw[if_neg (by dsimp only;omega)]
  have:=b.used;show zV (qS m.L x.s ⟨3,cl⟩)<=c.qu;unfold zV at*;omega
 ·have w:=h.other_seg z a;have l:=h.td p (zS.1 a).1;have i:stL (qS m.L x.s ⟨3,cl⟩) p.2.s=stL m.L p.2.s:=by rw[zjz b.nl,if_neg w]
  exact⟨l.key,(d _).2 l.mem,l.clo,fun e=>by show(stL (qS m.L x.s ⟨3,cl⟩) p.2.s).st=2;rw[i];exact l.roll e,fun e=>by show(stL (qS m.L x.s ⟨3,cl⟩) p.2.s).st≠2;rw[i];exact l.recl e,l.se,l.ti⟩
theorem MOk.reclaimed(h:MOk c ep m)(H:zE m.QL t=J g)(C:zE m.TL g.job=J x)(I:x.rl=false):
  MOk c ep {m with L:=zT m.L x.s,Gl:=qj m.Gl x.s (),TL:=zT m.TL g.job,QL:=zT m.QL t}/\(∀f:SV->Int,qJ ((zT m.L x.s).map (fun p=>f p.2))=qJ (m.L.map (fun p=>f p.2))-f (stL m.L x.s))/\(stL m.L x.s).st≠2/\x.s∈zn m.L/\(qj m.Gl x.s ()).length=m.Gl.length+1:=by
 have v:=h.td _ (zA C);have y:(x.s,stL m.L x.s)∈m.L:=zW v.mem;have B:(stL m.L x.s).st≠2:=v.recl I;have q:=fun f:SV->Int=>zjI f h.seg.nl y;have j:=h.seg;have z:x.s∉zk m.Gl:=j.disj _ y;have a:∀p,p∈zT m.L x.s->p∈m.L/\p.1≠x.s:=fun p d=>zS.1 d;have n:∀k,k∈zn m.L->k≠x.s->k∈zn (zT m.L x.s):=fun k l i=>by
  obtain⟨p,d,rfl⟩:=List.mem_map.1 (show k∈m.L.map (·.1)from l);exact List.mem_map.2 ⟨p,zS.2 ⟨d,i⟩,rfl⟩
 have u:∀k,k≠x.s->stL (zT m.L x.s) k=stL m.L k:=fun k i=>by
  unfold stL;rw[show ko (zT m.L x.s) k=ko m.L k from by
   have:=jR (L:=m.L) j.nl x.s k;rw[if_neg i]at this;exact this]
 refine⟨⟨h.now,⟨fun p d=>j.inr p (a p d).1,qa (L:=m.L) j.nl,fun p d=>j.raw p (a p d).1,fun p d=>j.tier p (a p d).1,fun p d=>?_,qq j.ng,fun p d=>j.pubc p (a p d).1,fun k l=>?_,fun p d K=>?_,?_⟩,fun p d=>?_,qa h.nt,h.done_leas H,qa h.nq,ZQ h.jobs t,h.num⟩,q,B,v.mem,?_⟩
 ·intro l;rcases zZ.1 l with l|l
  ·exact j.disj p (a p d).1 l
  ·exact(a p d).2 l
 ·rcases zZ.1 l with l|rfl
  ·exact j.goc k l
  ·exact v.clo
 ·rcases j.above p (a p d).1 K with w|w
  ·by_cases e:(⟨(c.b:Int),p.1.sr,p.1.wn*c.wi/c.W c.b⟩:Sg)=x.s
   ·exact .inr (zZ.2 (.inr e))
   ·exact .inl (n _ w e)
  ·exact .inr (zZ.2 (.inl w))
 ·have M:=q kf;have F:=j.use _ y;have:=j.used;show zV (zT m.L x.s)<=c.qu;unfold zV at*;dsimp only at F;omega
 ·have i:=h.other_seg C d;have r:=h.td p (zS.1 d).1;have o:=u p.2.s i;exact⟨r.key,n _ r.mem i,r.clo,fun e=>by show(stL (zT m.L x.s) p.2.s).st=2;rw[o];exact r.roll e,fun e=>by show(stL (zT m.L x.s) p.2.s).st≠2;rw[o];exact r.recl e,r.se,r.ti⟩
 ·rw[vB,if_neg z]
end
theorem KR{a b n:Nat}{e:TypeId}{v:Value}{c:List Value}(h:w.ownsRow a e b v n c):w.drew.ownsRow a e b v n c:=h
theorem Y5{w':G}{a:Option Nat}(h:w.drew.grownBy w' a):w.grownBy w' a:=⟨h.os,h.tape,h.output,h.size,h.block⟩
theorem KO(w:G)(o:Obj):(w.alloc o).drew.1[w.1.size]?=J o:=zq w o
theorem zhl(a:G)(o:Obj):a.1.size<=(a.alloc o).drew.1.size:=by show a.1.size<=(a.alloc o).1.size;rw[zM];omega
theorem zed(a b:Int)(c:1<=b)(d:b<=a):0<a/b:=Int.le_ediv_of_mul_le (by omega) (by omega)
theorem zoM{g:Nat}{a b c d e f i:Value}{t:TypeId}{n:Nat×Nat}(h:w.1[g]?=J (.cells #[a,b,c,d,e,f,i] t n))(j k l m o p q:Value):(((((((w.setCell (U g 0) j).setCell (U g 1) k).setCell (U g 2) l).setCell (U g 3) m).setCell (U g 4) o).setCell (U g 5) p).setCell (U g 6) q).1[g]?=J (.cells #[j,k,l,m,o,p,q] t n):=by
 have r:(w.setCell (U g 0) j).1[g]?=J (.cells #[j,b,c,d,e,f,i] t n):=xD (i:=0) h j;have s:((w.setCell (U g 0) j).setCell (U g 1) k).1[g]?=J (.cells #[j,k,c,d,e,f,i] t n):=xD (i:=1) r k;have u:(((w.setCell (U g 0) j).setCell (U g 1) k).setCell (U g 2) l).1[g]?=J (.cells #[j,k,l,d,e,f,i] t n):=xD (i:=2) s l;have v:((((w.setCell (U g 0) j).setCell (U g 1) k).setCell (U g 2) l).setCell (U g 3) m).1[g]?=J (.cells #[j,k,l,m,e,f,i] t n):=xD (i:=3) u m;have x:(((((w.setCell (U g 0) j).setCell (U g 1) k).setCell (U g 2) l).setCell (U g 3) m).setCell (U g 4) o).1[g]?=J (.cells #[j,k,l,m,o,f,i] t n):=xD (i:=4) v o;have y:((((((w.setCell (U g 0) j).setCell (U g 1) k).setCell (U g 2) l).setCell (U g 3) m).setCell (U g 4) o).setCell (U g 5) p).1[g]?=J (.cells #[j,k,l,m,o,p,i] t n):=xD (i:=5) x p;have z:(((((((w.setCell (U g 0) j).setCell (U g 1) k).setCell (U g 2) l).setCell (U g 3) m).setCell (U g 4) o).setCell (U g 5) p).setCell (U g 6) q).1[g]?=J (.cells #[j,k,l,m,o,p,q] t n):=xD (i:=6) y q;exact z
def kj(v:SV):Int:=if v.st=1 then v.cl.cnt else 0
def Xu(L:LV):Int:=qJ (L.map (fun p=>kj p.2))
section
variable {c:Cf} {L:LV}
theorem Zj(x:Nm):∀(k:Nat) (L:LV) {p:Sg×SV},p∈kM c x k L->p∈L\/∃j:Nat,j<k/\p=(zG c (j:Int) x,⟨2,qA⟩)/\zG c (j:Int) x∉zn L
 |0,L,p,h=> .inl h
 |k+1,L,p,h=>by
  have d:p∈qs c x k (kM c x k L):=h;unfold qs at d;split at d
  ·rcases Zj x k L d with a|⟨j,a,b⟩
   ·exact .inl a
   ·exact .inr ⟨j,by omega,b⟩
  ·rename_i hn;rcases qv d with rfl|⟨d,_⟩
   ·refine .inr ⟨k,by omega,rfl,fun g=>hn ?_⟩;clear h d hn;have e:∀(k:Nat) (s:Sg),s∈zn L->s∈zn (kM c x k L):=fun k=>by
     induction k with
     |zero=>exact fun s h=>h
     |succ k f=>intro s h;show s∈zn (qs c x k _);unfold qs;split;exact f s h;exact xN.2 (.inl (f s h))
    exact e k _ g
   ·rcases Zj x k L d with a|⟨j,a,b⟩
    ·exact .inl a
    ·exact .inr ⟨j,by omega,b⟩
theorem jz(x:Nm):∀(k:Nat) (L:LV) {p:Sg×SV},p∈L->p∈kM c x k L
 |0,L,p,h=>h
 |k+1,L,p,h=>by
  have a:=jz x k L h;show p∈qs c x k (kM c x k L);unfold qs;split
  ·exact a
  ·rename_i hn;unfold qS;rw[if_neg hn];exact List.mem_append_left _ a
theorem Xo(x:Nm):∀(k:Nat) (L:LV),(zn L).Nodup->(zn (kM c x k L)).Nodup
 |0,L,h=>h
 |k+1,L,h=>by
  show(zn (qs c x k (kM c x k L))).Nodup;unfold qs;split
  ·exact Xo x k L h
  ·exact yo (Xo x k L h)
theorem XQ(x:Nm):∀(k:Nat) (L:LV) (j:Nat),j<k->zG c (j:Int) x∈zn (kM c x k L)
 |k+1,L,j,h=>by
  show _∈zn (qs c x k (kM c x k L));unfold qs;split
  ·rename_i hm;by_cases e:j=k
   ·subst e;exact hm
   ·exact XQ x k L j (by omega)
  ·by_cases e:j=k
   ·subst e;exact xN.2 (.inr rfl)
   ·exact xN.2 (.inl (XQ x k L j (by omega)))
theorem jY(d:c.ok){x:Nm}{t:Int}(a: -1<=t)(b:t<c.n)(f:now-c.la<=x.tm):¬c.clo now (zG c t x):=by
 obtain⟨e,_⟩:=d.wh a b;have:x.tm<(x.tm/c.wh t+1)*c.wh t:=Int.lt_ediv_add_one_mul_self _ (by omega);unfold Cf.clo zG;dsimp only;omega
theorem zjr(d:c.ok){x:Nm}(h:0<=x.sr/\x.sr<4)(e:0<=x.tm/\x.tm<=100000){t:Int}(a: -1<=t)(b:t<c.n):inR c (zG c t x):=by
 obtain⟨i,_⟩:=d.wh a b;have hn:=d.n4;have f:0<=x.tm/c.wh t:=Int.ediv_nonneg e.1 (by omega);have g:x.tm/c.wh t<=x.tm:=Int.ediv_le_self _ e.1;refine⟨⟨?_,?_,?_⟩,a,b,f,?_⟩
 ·show xz t;unfold xz;omega
 ·show xz x.sr;unfold xz;omega
 ·show xz (x.tm/c.wh t);unfold xz;omega
 ·show x.tm/c.wh t<=100000;omega
theorem zjq(f:c.ok)(g:c.fits){x:Nm}(j:0<=x.tm):(⟨(c.b:Int),x.sr,(xr c x).wn*c.wi/c.W c.b⟩:Sg)=zG c (c.b:Int) x:=by
 obtain⟨q,i,e⟩:=g.div0;have h:=f.wi1;have a:c.wh (c.b:Int)=c.W c.b:=by unfold Cf.wh zQ;rw[if_neg (by omega)];simp
 have d:c.wh (-1)=c.wi:=by unfold Cf.wh zQ;rw[if_pos rfl]
 unfold xr zG;rw[a,d];dsimp only;have:x.tm/c.wi*c.wi/c.W c.b=x.tm/c.W c.b:=by
  rw[e,Int.mul_comm c.wi q,Int.mul_ediv_mul_of_pos_left _ _ (by omega),Int.ediv_ediv_of_nonneg (by omega),Int.mul_comm c.wi q]
 rw[this]
end
section
variable {c:Cf} {ep:Int} {m:MS}
theorem MOk.rawAt(h:yu c m.now m.L m.Gl)(f:c.ok){x:Nm}(g:ko m.L (xr c x)=J v):v.st=1/\1<=v.cl.cnt/\v.cl.cnt<=400/\ -(v.cl.cnt*2147483648)<=v.cl.sum/\v.cl.sum<=v.cl.cnt*2147483648:=by
 have e:=vU g;obtain⟨a,b,d⟩:=h.raw _ e rfl;exact⟨a,b,h.cnt f _ e rfl,d⟩
theorem zjJ(h:yu c m.now m.L m.Gl)(g:c.ok)(x:Nm)(f:SV->Int)(a:∀cl:Cl,f ⟨1,cl⟩=cl.cnt):qJ ((qW c m.L x).map (fun p=>f p.2))=qJ (m.L.map (fun p=>f p.2))+1:=by
 unfold qW;cases b:ko m.L (xr c x)with
 |none=>rw[XH f (ye.1 b),a];simp[qU]
 |some v=>
  obtain⟨d,_⟩:=MOk.rawAt h g b
  rw[Jo h.nl (vU b) f,a]
  have:f v=v.cl.cnt:=by
   have e:v=⟨1,v.cl⟩:=(by cases v;simp at d;subst d;rfl);rw[e,a]
  rw[this];simp[qU];omega
theorem zjK(x:Nm)(f:SV->Int)(a:f ⟨2,qA⟩=0):∀(k:Nat) (L:LV),qJ ((kM c x k L).map (fun p=>f p.2))=qJ (L.map (fun p=>f p.2))
 |0,L=>rfl
 |k+1,L=>by
  show qJ ((qs c x k (kM c x k L)).map (fun p=>f p.2))=_;unfold qs;split
  ·exact zjK x f a k L
  ·rename_i hn;rw[XH f hn,zjK x f a k L,a];omega
theorem zcx(h:yu c m.now m.L m.Gl)(a:c.ok)(x:Nm):zV (yv c m.L x)=zV m.L+1+2*yn c m.L x c.n:=by
 unfold yv;rw[zpd];have:=zjJ h a x kf (fun cl=>by simp[kf]);unfold zV at*;omega
theorem zid(h:yu c m.now m.L m.Gl)(a:c.ok)(x:Nm):Xu (yv c m.L x)=Xu m.L+1:=by
 unfold yv Xu;rw[zjK x kj (by simp[kj]) c.n];exact zjJ h a x kj (fun cl=>by simp[kj])
theorem MOk.added(h:MOk c ep m)(z:c.ok)(O:c.fits){x:Nm}(Z:0<=x.sr/\x.sr<4)(Q:0<=x.tm/\x.tm<=m.now)(U:m.now-c.la<=x.tm)(hv: -2147483648<=x.val/\x.val<=2147483647)(hu:zV m.L+1+2*yn c m.L x c.n<=c.qu):
  MOk c ep {m with L:=yv c m.L x}:=by
 have g:=h.seg;have P:=h.now;have X:=z.n1;have l:=fun(t:Int) (i: -1<=t) (B:t<c.n)=>jY z i B U;have F:=fun(t:Int) (i: -1<=t) (B:t<c.n)=>zjr z Z ⟨Q.1,by omega⟩ i B (x:=x);have f:∀p,p∈yv c m.L x->(p∈m.L/\p.1≠xr c x)\/p=(xr c x,⟨1,qU x.val ((ko m.L (xr c x)).map (·.cl))⟩)\/∃j:Nat,j<c.n/\p=(zG c (j:Int) x,⟨2,qA⟩)/\zG c (j:Int) x∉zn m.L:=fun p a=>by
  rcases Zj x c.n _ a with a|⟨j,i,B,C⟩
  ·rcases qv a with rfl|a
   ·exact .inr (.inl rfl)
   ·exact .inl a
  ·exact .inr (.inr ⟨j,i,B,fun V=>C (xN.2 (.inl V))⟩)
 have u:∀p,p∈m.L->p.1≠xr c x->p∈yv c m.L x:=fun p a o=>jz x c.n _ (by
  unfold qW qS;split
  ·exact List.mem_map.2 ⟨p,a,by rw[if_neg o]⟩
  ·exact List.mem_append_left _ a)
 have I:(zn (yv c m.L x)).Nodup:=Xo x c.n _ (yo g.nl);have K:xr c x∈zn (yv c m.L x):=by
  have:(xr c x,(⟨1,qU x.val ((ko m.L (xr c x)).map (·.cl))⟩:SV))∈yv c m.L x:=jz x c.n _ (by
   have q:xr c x∈zn (qW c m.L x):=xN.2 (.inr rfl);have:=zW q;have e:stL (qW c m.L x) (xr c x)=⟨1,qU x.val ((ko m.L (xr c x)).map (·.cl))⟩:=(by unfold qW;rw[zjz g.nl,if_pos rfl]);rw[e]at this;exact this)
  exact List.mem_map.2 ⟨_,this,rfl⟩
 have r:∀k,k∈zn m.L->k∈zn (yv c m.L x):=fun k q=>by
  by_cases e:k=xr c x
  ·rw[e];exact K
  ·obtain⟨p,a,rfl⟩:=List.mem_map.1 (show k∈m.L.map (·.1)from q);exact List.mem_map.2 ⟨p,u p a e,rfl⟩
 have N:∀k,k∈zn m.L->k≠xr c x->stL (yv c m.L x) k=stL m.L k:=fun k q o=>zqj I (u _ (zW q) o);have Y:(xr c x).t= -1:=rfl;refine⟨h.now,⟨fun p a=>?_,I,fun p a y=>?_,fun p a y=>?_,fun p a=>?_,g.ng,fun p a C=>?_,g.goc,fun p a y=>?_,?_⟩,fun p a=>?_,h.nt,h.leas,h.nq,h.jobs,h.num⟩
 ·rcases f p a with⟨a,_⟩|rfl|⟨j,H,rfl,_⟩
  ·exact g.inr p a
  ·exact F (-1) (by omega) (by omega)
  ·exact F j (by omega) (by omega)
 ·rcases f p a with⟨a,_⟩|rfl|⟨j,H,rfl,_⟩
  ·exact g.raw p a y
  ·refine⟨rfl,?_⟩;dsimp only;cases T:ko m.L (xr c x)with
   |none=>simp[qU];omega
   |some v=>obtain⟨_,b,_,d,e⟩:=MOk.rawAt g z T;simp only[Option.map_some,qU];omega
  ·have:((j:Int))= -1:=y;omega
 ·rcases f p a with⟨a,_⟩|rfl|⟨j,H,rfl,_⟩
  ·exact g.tier p a y
  ·have:0<=(xr c x).t:=y;omega
  ·exact .inl rfl
 ·rcases f p a with⟨a,_⟩|rfl|⟨j,H,rfl,_⟩
  ·exact g.disj p a
  ·exact fun q=>l (-1) (by omega) (by omega) (g.goc _ q)
  ·exact fun q=>l j (by omega) (by omega) (g.goc _ q)
 ·rcases f p a with⟨a,_⟩|rfl|⟨j,H,rfl,_⟩
  ·exact g.pubc p a C
  ·simp at C
  ·simp at C
 ·rcases f p a with⟨a,_⟩|rfl|⟨j,H,rfl,_⟩
  ·rcases g.above p a y with M|M
   ·exact .inl (r _ M)
   ·exact .inr M
  ·left;show(⟨(c.b:Int),x.sr,(xr c x).wn*c.wi/c.W c.b⟩:Sg)∈_;rw[zjq z O Q.1];exact XQ x c.n _ c.b O.bn
  ·have:((j:Int))= -1:=y;omega
 ·show zV (yv c m.L x)<=c.qu;rw[zcx g z];exact hu
 ·have i:=h.td p a;have o:p.2.s≠xr c x:=fun e=>by
   have:=i.clo;rw[e]at this;exact l (-1) (by omega) (by omega) this
  have w:=N _ i.mem o;exact⟨i.key,r _ i.mem,i.clo,fun e=>by show(stL (yv c m.L x) p.2.s).st=2;rw[w];exact i.roll e,fun e=>by show(stL (yv c m.L x) p.2.s).st≠2;rw[w];exact i.recl e,i.se,i.ti⟩
theorem MOk.not_gone(h:MOk c ep m)(d:c.ok){x:Nm}(f:m.now-c.la<=x.tm){t:Int}(a: -1<=t)(b:t<c.n):zE m.Gl (zG c t x)=A:=
 xy.2 (fun e=>jY d a b f (h.seg.goc _ e))
theorem MOk.small(h:MOk c ep m)(g:c.ok):∀p∈m.L,p.1.t= -1->0<=p.2.cl.cnt/\p.2.cl.cnt<=1000000000000/\ -1000000000000000000<=p.2.cl.sum/\p.2.cl.sum<=1000000000000000000:=fun p e f=>by
 obtain⟨_,a,b,d⟩:=h.seg.raw p e f;have:=h.seg.cnt g p e f;omega
end
section
variable {c:Cf} {now:Int} {L:LV} {Gl:List (Sg×Unit)}
theorem Jq:∀(L:LV),(∀p∈L,p.2.st=1\/p.2.st=2\/p.2.st=3)->zV L=Xu L+2*(xc L 2+xc L 3)
 |[],_=>by simp[zV,Xu,xc,qJ]
 |p::L,h=>by
  have b:=Jq L (fun q a=>h q (by simp[a]));unfold zV Xu xc at*;simp only[List.map_cons,qJ];have:=h p (by simp);unfold kf kj zgQ;rcases this with e|e|e<;>simp[e]<;>unfold kf kj zgQ at b<;>omega
theorem yu.sts(h:yu c now L Gl):∀p∈L,p.2.st=1\/p.2.st=2\/p.2.st=3:=fun p a=>by
 have b:=h.inr p a;by_cases d:p.1.t= -1
 ·exact .inl (h.raw p a d).1
 ·exact .inr (h.tier p a (by have:=b.2.1;omega))
theorem yu.held1(h:yu c now L Gl):∀p∈L,p.2.st=1->1<=p.2.cl.cnt:=fun p a e=>by
 have b:=h.inr p a;by_cases d:p.1.t= -1
 ·exact(h.raw p a d).2.1
 ·have:=h.tier p a (by have:=b.2.1;omega);omega
end
def Xm(c:Cf)(m:MS):Prop:=∃a:List (Sg×Unit),(∀x,x∈zk a↔∃k,k∈zn m.L/\(stL m.L k).st=2/\x∈yw c k)/\(∀s,s∈zn m.L->yU c a m.L m.now s=true->(⟨1,s⟩:Jk)∈zk m.TL)/\(∀s,s∈zn m.L->yT c m.L m.now s=true->(⟨2,s⟩:Jk)∈zk m.TL)
theorem Je{now:Int}:∀(c:List Sg) {T:List (Jk×Tsk)},(∀k,k∈zk T->k∈zk (c.foldl (yp now) T))/\∀s∈c,(⟨1,s⟩:Jk)∈zk (c.foldl (yp now) T)
 |[],T=>⟨fun _ h=>h,fun s b=>by cases b⟩
 |y::c,T=>by
  have d:∀k,k∈zk T\/k=⟨1,y⟩->k∈zk (yp now T y):=fun k a=>by
   unfold yp;split
   ·rename_i x hx;rcases a with a|rfl
    ·exact a
    ·exact List.mem_map.2 ⟨_,zA hx,rfl⟩
   ·exact zZ.2 a
  obtain⟨e,f⟩:=Je c (T:=yp now T y);refine⟨fun k a=>e k (d k (.inl a)),fun s b=>?_⟩;rcases List.mem_cons.1 b with rfl|b
  ·exact e _ (d _ (.inr rfl))
  ·exact f s b
theorem QG{now:Int}:∀(c:List Sg) {T:List (Jk×Tsk)},(∀k,k∈zk T->k∈zk (c.foldl (yS now) T))/\∀s∈c,(⟨2,s⟩:Jk)∈zk (c.foldl (yS now) T)
 |[],T=>⟨fun _ h=>h,fun s b=>by cases b⟩
 |y::c,T=>by
  have d:∀k,k∈zk T\/k=⟨2,y⟩->k∈zk (yS now T y):=fun k a=>by
   unfold yS;split
   ·rename_i x hx;rcases a with a|rfl
    ·exact a
    ·exact List.mem_map.2 ⟨_,zA hx,rfl⟩
   ·exact zZ.2 a
  obtain⟨e,f⟩:=QG c (T:=yS now T y);refine⟨fun k a=>e k (d k (.inl a)),fun s b=>?_⟩;rcases List.mem_cons.1 b with rfl|b
  ·exact e _ (d _ (.inr rfl))
  ·exact f s b
section
variable {c:Cf} {ep:Int} {m:MS} {ns:List Nm}
theorem Xm.of(j:xB c m TL'):Xm c {m with TL:=TL'}:=by
 obtain⟨f,e,a,i,g,h,rfl⟩:=j.tO;exact⟨f,i,fun s d b=>(QG a).1 _ ((Je e).2 s ((g s).2 ⟨d,b⟩)),fun s d b=>(QG a).2 s ((h s).2 ⟨d,b⟩)⟩
end
def RM.fail(m:RM)(ep num:Int):RM×Int:=match m.td.findIdx? (Tk.holds ep num)with
 |some i=>({m with td:=m.td.modify i (Tk.fail m.now)},0)
 |none=>(m,8)
noncomputable def zaG (wi:Int) (F0 W0 K0:Nat->Int):Nat->(Nat->Int)×(Nat->Int)×(Nat->Int)
 |0=>(fun _=>0,fun _=>0,fun _=>0)
 |k+1=>(ZJ (zaG wi F0 W0 K0 k).1 k (pkV (F0 k) ((k:Int)+1)-1),ZJ (zaG wi F0 W0 K0 k).2.1 k (zQ wi (zaG wi F0 W0 K0 k).2.1 (pkV (F0 k) ((k:Int)+1)-1)*(1+pkV (W0 k) (1000/zQ wi (zaG wi F0 W0 K0 k).2.1 (pkV (F0 k) ((k:Int)+1)-1)))),ZJ (zaG wi F0 W0 K0 k).2.2 k (pkV (K0 k) 1001))
theorem zaY{c b r d g e:Int}(h:zaG wi F0 W0 K0 k=(F,W,K))(i:F0 k=d)(j:W0 k=g)(l:K0 k=e)(n:pkV d ((k:Int)+1)=c)(a:c-1=f)(m:zQ wi W f=b)(o:pkV g (1000/b)=q)(p:pkV e 1001=r):
  zaG wi F0 W0 K0 (k+1)=(ZJ F k f,ZJ W k (b*(1+q)),ZJ K k r):=by
 show(ZJ (zaG wi F0 W0 K0 k).1 k (pkV (F0 k) ((k:Int)+1)-1),ZJ (zaG wi F0 W0 K0 k).2.1 k (zQ wi (zaG wi F0 W0 K0 k).2.1 (pkV (F0 k) ((k:Int)+1)-1)*(1+pkV (W0 k) (1000/zQ wi (zaG wi F0 W0 K0 k).2.1 (pkV (F0 k) ((k:Int)+1)-1)))),ZJ (zaG wi F0 W0 K0 k).2.2 k (pkV (K0 k) 1001))=_;rw[h,i,j,l,n,a];dsimp only;rw[m,o,p]
noncomputable def zps (s le la wi ke qu:Int) (n:Nat) (F0 W0 K0:Nat->Int):Cf:=
 if min n 4=0 then⟨1+pkV s 4,1+pkV le 100,pkV la 101,1+pkV wi 50,pkV ke 1001,1+pkV qu 400,0+1,ZJ (fun _=>0) 0 (-1),ZJ (fun _=>0) 0 (1+pkV wi 50),ZJ (fun _=>0) 0 0⟩
 else⟨1+pkV s 4,1+pkV le 100,pkV la 101,1+pkV wi 50,pkV ke 1001,1+pkV qu 400,min n 4,(zaG (1+pkV wi 50) F0 W0 K0 (min n 4)).1,(zaG (1+pkV wi 50) F0 W0 K0 (min n 4)).2.1,(zaG (1+pkV wi 50) F0 W0 K0 (min n 4)).2.2⟩
theorem zhF{s:Int}{n:Nat}(b:pkV s 4=r1)(c:pkV le 100=r2)(d:pkV la 101=r3)(e:pkV wi 50=r4)(f:pkV ke 1001=r5)(g:pkV qu 400=r6)(i:min n 4=k)(a:¬k=0)(h:zaG (1+r4) F0 W0 K0 k=(F,W,K)):
  (⟨1+r1,1+r2,r3,1+r4,r5,1+r6,k,F,W,K⟩:Cf)=zps s le la wi ke qu n F0 W0 K0:=by
 unfold zps;rw[i,if_neg a,b,c,d,e,f,g,h]
theorem zkF{s:Int}{n:Nat}(d:pkV s 4=r1)(f:pkV le 100=r2)(g:pkV la 101=r3)(h:pkV wi 50=r4)(i:pkV ke 1001=r5)(j:pkV qu 400=r6)(l:min n 4=0)(k:zaG (1+r4) F0 W0 K0 0=(F,W,K)):
  (⟨1+r1,1+r2,r3,1+r4,r5,1+r6,0+1,ZJ F 0 (-1),ZJ W 0 (1+r4),ZJ K 0 0⟩:Cf)=zps s le la wi ke qu n F0 W0 K0:=by
 have e:((fun _=>0,fun _=>0,fun _=>0):(Nat->Int)×(Nat->Int)×(Nat->Int))=(F,W,K):=k;injection e with b a;injection a with a c;subst b a c;unfold zps;rw[l,if_pos rfl,d,f,g,h,i,j]
def zpG(C:Cf)(w:G)(e:Ending)(w':G):Prop:=∃(c:Cf) (g a:Nat),c=C/\qd c.s c.le c.la c.wi c.ke c.qu c.n c.F c.W c.K=true/\c.fits/\e=.returned ((cZz c (J (U g 0)) a))/\w'.ownsRow w.1.size 80 3 (.slice (J (U g 0)) c.n a) c.n (ZC c.n c.F c.W c.K)/\D w.1.size w w'
def YL(QL:List (Tok×Lse))(t:Tok):Int:=match zE QL t with|some g=>g.til|none=>0
def Ze(ep:Int)(k:Nat):List Tok:=(List.range k).map (fun j:Nat=>(⟨ep,(j:Int)+1⟩:Tok))
def X5(ep:Int)(QL:List (Tok×Lse))(k:Nat):List Int:=(List.range k).map (fun j:Nat=>YL QL ⟨ep,(j:Int)+1⟩)
theorem xP(ep:Int)(k:Nat):(Ze ep k).length=k:=by simp[Ze]
theorem yq(ep:Int)(QL:List (Tok×Lse))(k:Nat):(X5 ep QL k).length=k:=by simp[X5]
theorem Vd(ep:Int)(k j:Nat)(h:j<k):(Ze ep k)[j]?=J ⟨ep,(j:Int)+1⟩:=by simp[Ze,h]
theorem zaC(ep:Int)(QL:List (Tok×Lse))(k j:Nat)(h:j<k):(X5 ep QL k)[j]?=J (YL QL ⟨ep,(j:Int)+1⟩):=by simp[X5,h]
theorem zjU(ep:Int)(k:Nat):Ze ep (k+1)=Ze ep k++[⟨ep,(k:Int)+1⟩]:=by simp[Ze,List.range_succ]
theorem zka(ep:Int)(QL:List (Tok×Lse))(k:Nat):X5 ep QL (k+1)=X5 ep QL k++[YL QL ⟨ep,(k:Int)+1⟩]:=by simp[X5,List.range_succ]
variable {Q:List (Tok×Lse)}
theorem zgJ{a:List (Tok×Lse)}(h:∀j:Nat,j<k->YL Q ⟨ep,(j:Int)+1⟩=YL a ⟨ep,(j:Int)+1⟩):X5 ep Q k=X5 ep a k:=by
 unfold X5;exact List.map_congr_left (fun j b=>h j (by simpa using b))
def zoN(s:Sg):Nat:=((s.t+1)*400004+s.sr*100001+s.wn).toNat
def QK(s:Sg):Prop:=0<=s.sr/\s.sr<4
theorem zjx(a:c.ok)(h:inR c s)(b:QK s):zoN s<2000020:=by
 obtain⟨_,d,e,f,g⟩:=h;obtain⟨i,j⟩:=b;have:=a.n4;unfold zoN;omega
theorem zeS{a:Sg}(h:inR c s)(j:QK s)(i:inR c a)(b:QK a)(e:zoN s=zoN a):s=a:=by
 obtain⟨_,x,y,z,B⟩:=h;obtain⟨C,F⟩:=j;obtain⟨_,n,o,p,q⟩:=i;obtain⟨u,w⟩:=b;obtain⟨t,r,v⟩:=s;obtain⟨l,k,m⟩:=a;unfold zoN at e;dsimp only at*;have d:t=l:=by omega
 have f:r=k:=by omega
 have g:v=m:=by omega
 rw[d,f,g]
structure SOk(c:Cf)(ep:Int)(m:MS)(nn:Nat):Prop where
 ok:MOk c ep m
 gin:∀k∈zk m.Gl,inR c k/\QK k
 lin:∀k∈zn m.L,QK k
 held:Xu m.L<=nn
section
variable {c:Cf} {ep:Int} {m:MS} {nn:Nat}
theorem SOk.gl(h:SOk c ep m nn)(n:c.ok):m.Gl.length<=2000020:=by
 have k:=jW ((zk m.Gl).map zoN) (List.range 2000020) ?_ ?_
 ·simpa[zk]using k
 ·have hn:=h.ok.seg.ng;have d:=h.gin;generalize zk m.Gl=l at*;rw[List.nodup_iff_pairwise_ne,List.pairwise_map];refine(List.nodup_iff_pairwise_ne.1 hn).imp_of_mem ?_;intro a b g i f e;exact f (zeS (d a g).1 (d a g).2 (d b i).1 (d b i).2 e)
 ·intro x o;obtain⟨s,j,rfl⟩:=List.mem_map.1 o;exact List.mem_range.2 (zjx n (h.gin s j).1 (h.gin s j).2)
theorem MOk.unt_pos(h:MOk c ep m)(a:zE m.QL t=J g):YL m.QL t=g.til/\0<g.til:=by
 have b:=(h.leas _ (zA a)).til;have d:=h.now;refine⟨by unfold YL;rw[a],by dsimp only at b;omega⟩
theorem MOk.unt_none(a:zE m.QL t=A):YL m.QL t=0:=by unfold YL;rw[a]
theorem zpa(hn:(zk QL).Nodup)(t k:Tok):YL (zT QL t) k=if k=t then 0 else YL QL k:=by
 unfold YL;rw[jR hn];by_cases e:k=t
 ·rw[if_pos e,if_pos e]
 ·rw[if_neg e,if_neg e]
theorem zkb(hn:(zk QL).Nodup)(t k:Tok)(g:Lse):YL (qj QL t g) k=if k=t then g.til else YL QL k:=by
 unfold YL;rw[vd hn];by_cases e:k=t
 ·rw[if_pos e,if_pos e]
 ·rw[if_neg e,if_neg e]
theorem zmz(hn:(zk QL).Nodup)(k j:Nat):X5 ep (zT QL ⟨ep,(j:Int)+1⟩) k=(X5 ep QL k).set j 0:=by
 apply List.ext_getElem?;intro i;rw[List.getElem?_set];by_cases a:i<k
 ·rw[zaC _ _ _ _ a,zpa hn,zaC _ _ _ _ a,yq];by_cases e:j=i
  ·subst e;simp[a]
  ·rw[if_neg (by intro h;injection h with _ h;omega),if_neg e]
 ·have b:(X5 ep (zT QL ⟨ep,(j:Int)+1⟩) k)[i]?=A:=List.getElem?_eq_none (by rw[yq];omega);have c:(X5 ep QL k)[i]?=A:=List.getElem?_eq_none (by rw[yq];omega);rw[b,c];split
  ·rename_i e;subst e;rw[if_neg (by rw[yq];exact a)]
  ·rfl
theorem zjZ(k j:Nat)(h:YL QL ⟨ep,(j:Int)+1⟩=0):(X5 ep QL k).set j 0=X5 ep QL k:=by
 apply List.ext_getElem?;intro i;rw[List.getElem?_set];by_cases a:i<k
 ·rw[zaC _ _ _ _ a,yq];by_cases e:j=i
  ·subst e;simp[a,h]
  ·rw[if_neg e]
 ·have b:(X5 ep QL k)[i]?=A:=List.getElem?_eq_none (by rw[yq];omega);rw[b];split
  ·rename_i e;subst e;rw[if_neg (by rw[yq];exact a)]
  ·rfl
theorem zmA(hn:(zk QL).Nodup)(k:Nat)(g:Lse):X5 ep (qj QL ⟨ep,(k:Int)+1⟩ g) (k+1)=X5 ep QL k++[g.til]:=by
 rw[zka,zkb hn,if_pos rfl];congr 1;exact zgJ (fun j a=>by rw[zkb hn,if_neg (by intro h;injection h with _ h;omega)])
def zgN(n:Int)(u:Int):Int:=if u<=n then 0 else u
theorem SOk.tick(x:c.ok)(y:c.fits)(h:SOk c ep m nn)(hn:1<=n)(f:m.now+n<=100000){d:List (Jk×Tsk)}{a:List (Tok×Lse)}(q:YQ (m.now+n) m.TL m.QL d a)(s:∀p∈a,m.now+n<p.2.til)(z:xB c {m with now:=m.now+n,TL:=d,QL:=a} TL'):
  SOk c ep {m with now:=m.now+n,TL:=TL',QL:=a} nn/\∀k,X5 ep a k=(X5 ep m.QL k).map (zgN (m.now+n)):=by
 have v:=h.ok.exps (n':=m.now+n) ⟨by omega,f⟩ q s;obtain⟨w,_,_⟩:=MOk.post x y v z;refine⟨⟨w,h.gin,h.lin,h.held⟩,fun k=>?_⟩;obtain⟨_,_,C,_,u,F,_,_⟩:=K8 (ep:=ep) (c:=c) (L:=m.L) (num:=m.num) (show m.now<=m.now+n by omega) h.ok.td h.ok.nt h.ok.leas h.ok.nq h.ok.jobs q;have B:∀t,YL a t=zgN (m.now+n) (YL m.QL t):=fun t=>by
  have l:=h.ok.now;unfold zgN;cases e:zE m.QL t with
  |none=>
   have:zE a t=A:=by
    cases b:zE a t with
    |none=>rfl
    |some g=>exact absurd (xt h.ok.nq (u _ (zA b))) (by rw[e];simp)
   rw[MOk.unt_none e,show YL a t=0 from by unfold YL;rw[this]];split<;>rfl
  |some g=>
   rw[(h.ok.unt_pos e).1];by_cases r:g.til<=m.now+n
   ·rw[if_pos r];have:zE a t=A:=by
     cases b:zE a t with
     |none=>rfl
     |some H=>
      have i:=xt h.ok.nq (u _ (zA b));rw[e]at i;injection i with i;have o:=s _ (zA b);rw[<-i]at o;dsimp only at o;omega
    unfold YL;rw[this]
   ·rw[if_neg r];have:=xt C (F _ (zA e) (by dsimp only;omega));unfold YL;rw[this]
 unfold X5;rw[List.map_map];exact List.map_congr_left (fun j _=>B _)
theorem SOk.take(b:c.ok)(h:SOk c ep m nn){p:Jk×Tsk}(e:p∈m.TL)(f:p.2.rest<=m.now)(d:kr m.QL p.2.key=false)(slot:Int):
  SOk c ep {m with num:=m.num+1,QL:=qj m.QL ⟨ep,m.num+1⟩ ⟨p.2.kd,p.2.s,slot,m.now+c.le⟩} nn:=by
 have a:=(h.ok.picked b (k:=p.1) (x:=p.2) (xt h.ok.nt e) f d slot).1;exact⟨a,h.gin,h.lin,h.held⟩
theorem SOk.fail(h:SOk c ep m nn)(a:zE m.QL t=J g)(b:zE m.TL g.job=J x):
  SOk c ep {m with TL:=qj m.TL g.job (x.failed m.now),QL:=zT m.QL t} nn:=⟨h.ok.failed a b,h.gin,h.lin,h.held⟩
theorem SOk.job(h:SOk c ep m nn)(q:c.ok)(l:zE m.QL t=J g):∃x,zE m.TL g.job=J x/\g.job.wf/\inR c x.s/\(x.rl=true->∃k:Nat,x.s.t=k)/\0<=x.ti/\x.ti<=1000000:=by
 obtain⟨x,i,r⟩:=(h.ok.leas _ (zA l)).job;have f:=zA i;have b:=h.ok.td _ f;have a:=h.ok.mem_inR b.mem;refine⟨x,i,h.ok.wfk _ f,a,fun e=>?_,?_⟩
 ·have d:=b.roll e;have n:=zW b.mem;refine⟨x.s.t.toNat,?_⟩;have o: -1<=x.s.t:=a.2.1;have p:x.s.t≠ -1:=fun j=>by
   have:=(h.ok.seg.raw _ n j).1;dsimp only at this d;omega
  omega
 ·have d:=b.ti;have:=h.ok.now;dsimp only at d;omega
theorem zbt(h:yu c m.now m.L m.Gl)(b:s∈zn m.L):0<=kj (stL m.L s):=by
 have a:=zW b;unfold kj;split
 ·rename_i h1;have:=h.held1 _ a h1;dsimp only at this;omega
 ·exact Int.le_refl _
theorem SOk.roll(n:c.ok)(o:c.fits)(h:SOk c ep m nn)(q:zE m.QL t=J g)(u:zE m.TL g.job=J ⟨true,s,se,ti,rest⟩)(cl:Cl)(r:xB c {m with L:=qS m.L s ⟨3,cl⟩,Gl:=m.Gl,TL:=zT m.TL g.job,QL:=zT m.QL t} TL'):
  SOk c ep {m with L:=qS m.L s ⟨3,cl⟩,Gl:=m.Gl,TL:=TL',QL:=zT m.QL t} nn/\xc (qS m.L s ⟨3,cl⟩) 2=xc m.L 2-1:=by
 obtain⟨f,d,i,j⟩:=h.ok.rolled q u rfl cl;dsimp only at f d i j;have l:=(MOk.post n o f r).1;refine⟨⟨l,h.gin,fun k e=>?_,?_⟩,?_⟩
 ·rcases xN.1 e with e|rfl
  ·exact h.lin k e
  ·exact h.lin _ j
 ·have:=d kj;have v:=h.held;have a:kj (stL m.L s)=0:=by unfold kj;rw[if_neg (by omega)]
  have b:kj ⟨3,cl⟩=0:=by simp[kj]
  rw[a,b]at this;unfold Xu at*;show qJ ((qS m.L s ⟨3,cl⟩).map (fun p=>kj p.2))<=_;omega
 ·have:=d (zgQ 2);have a:zgQ 2 (stL m.L s)=1:=by unfold zgQ;rw[if_pos i]
  have b:zgQ 2 ⟨3,cl⟩=0:=by simp[zgQ]
  rw[a,b]at this;unfold xc;omega
theorem SOk.reclaim(n:c.ok)(o:c.fits)(h:SOk c ep m nn)(q:zE m.QL t=J g)(r:zE m.TL g.job=J ⟨false,s,se,ti,rest⟩)(d:xB c {m with L:=zT m.L s,Gl:=qj m.Gl s (),TL:=zT m.TL g.job,QL:=zT m.QL t} TL'):
  SOk c ep {m with L:=zT m.L s,Gl:=qj m.Gl s (),TL:=TL',QL:=zT m.QL t} nn/\(qj m.Gl s ()).length=m.Gl.length+1:=by
 obtain⟨e,f,j,b,i⟩:=h.ok.reclaimed q r rfl;dsimp only at e f j b i;have l:=(MOk.post n o e d).1;refine⟨⟨l,fun k a=>?_,fun k a=>?_,?_⟩,i⟩
 ·rcases zZ.1 a with a|rfl
  ·exact h.gin k a
  ·exact⟨h.ok.mem_inR b,h.lin _ b⟩
 ·obtain⟨p,d,rfl⟩:=List.mem_map.1 (show k∈(zT m.L s).map (·.1)from a);exact h.lin _ (List.mem_map.2 ⟨p,(zS.1 d).1,rfl⟩)
 ·have:=f kj;have u:=h.held;have v:=zbt h.ok.seg b;unfold Xu at*;show qJ ((zT m.L s).map (fun p=>kj p.2))<=_;omega
theorem zks{x:Nm}(b:0<=x.sr/\x.sr<4)(h:∀k∈zn L,QK k):∀k∈zn (yv c L x),QK k:=fun k d=>by
 obtain⟨p,a,rfl⟩:=List.mem_map.1 (show k∈(yv c L x).map (·.1)from d);rcases Zj x c.n _ a with a|⟨j,e,rfl,f⟩
 ·rcases qv a with rfl|⟨a,_⟩
  ·exact b
  ·exact h _ (List.mem_map.2 ⟨p,a,rfl⟩)
 ·exact b
theorem SOk.ingest(a:c.ok)(d:c.fits)(h:SOk c ep m nn){x:Nm}(b:0<=x.sr/\x.sr<4)(g:0<=x.tm/\x.tm<=m.now)(e:m.now-c.la<=x.tm)(f: -2147483648<=x.val/\x.val<=2147483647)(k:zV m.L+(1+2*yn c m.L x c.n)<=c.qu):
  SOk c ep {m with L:=yv c m.L x} (nn+1)/\zV (yv c m.L x)=zV m.L+1+2*yn c m.L x c.n:=by
 refine⟨⟨h.ok.added a d b g e f (by omega),h.gin,zks b h.lin,?_⟩,zcx h.ok.seg a x⟩;have i:=zid h.ok.seg a x;have j:=h.held;show Xu (yv c m.L x)<=((nn+1:Nat):Int);omega
theorem SOk.new(a:c.ok):SOk c ep ⟨0,[],[],0,[],[]⟩ 0:=by
 have b:=a.qu;refine⟨⟨by dsimp only;omega,⟨by simp,by simp[zn],by simp,by simp,by simp,by simp[zk],by simp,by simp[zk],by simp,?_⟩,by simp,by simp[zk],by simp,by simp[zk],by simp,by dsimp only;omega⟩,by simp[zk],by simp[zn],?_⟩
 ·show zV []<=c.qu;simp[zV,qJ];omega
 ·simp[Xu,qJ]
end
def RM.done(m:RM)(a:Int)(s:Sg):RM:=if a=1 then{m with pub:=m.pub++[s]}.settled else{m with gone:=m.gone++[s]}.settled
def RM.commit(m:RM)(ep num:Int):RM×Int:=match m.td.findIdx? (Tk.holds ep num)with
 |some i=>(m.done ((m.td[i]?).getD ⟨0,⟨0,0,0⟩,0,0,0,0,0,0,0⟩).kind ((m.td[i]?).getD ⟨0,⟨0,0,0⟩,0,0,0,0,0,0,0⟩).s,0)
 |none=>(m,8)
def RM.due(m:RM)(x:Tk):Int:=if x.kind=2 then m.c.end x.s+m.c.keep x.s.t else m.c.end x.s
theorem VS(g:c.ok){k:Sg}(i:inR c k):Zs c L k=true↔∀x∈yw c k,(stL L x).st≠2:=by
 have b:=jB g i;unfold Zs;constructor
 ·intro h x j e;have f:((kO c k).filter (fun x=>(stL L x.1).st==2)).length=0:=by
   have:=of_decide_eq_true (show decide ((((kO c k).filter (fun x=>(stL L x.1).st==2)).length:Int)=0)=true from by simpa using h)
   omega
  obtain⟨y,a,d⟩:=List.mem_map.1 ((b x).2 j);have:y∈(kO c k).filter (fun x=>(stL L x.1).st==2):=List.mem_filter.2 ⟨a,by rw[d];simpa using e⟩;rw[List.eq_nil_of_length_eq_zero f]at this;simp at this
 ·intro h;have:(kO c k).filter (fun x=>(stL L x.1).st==2)=[]:=List.filter_eq_nil_iff.2 (fun y a e=>h y.1 ((b y.1).1 (List.mem_map.2 ⟨y,a,rfl⟩)) (by simpa using e));rw[this];rfl
theorem zeh{T:List (Jk×Tsk)}(h:YQ n [] [] T Q):T=[]/\Q=[]:=by
 induction h with
 |nil=>exact⟨rfl,rfl⟩
 |step _ a _ _ b=>rw[b.2]at a;simp[zE]at a
theorem zbk{α β:Type}(f:β->α->β)(a:α)(b c:β)(i:f b a=c)(j:f c a=c):∀(l:List α),(∀x∈l,x=a)->a∈l->l.foldl f b=c
 |[],_,h=>by cases h
 |x::l,g,_=>by
  have e:=g x (by simp);subst e;show l.foldl f (f b x)=c;rw[i];have:∀(l:List α),(∀y∈l,y=x)->l.foldl f c=c:=fun l=>by
   induction l with
   |nil=>intro _;rfl
   |cons y l m=>intro d;have e:=d y (by simp);subst e;show l.foldl f (f c y)=c;rw[j];exact m (fun z k=>d z (by simp[k]))
  exact this l (fun y d=>g y (by simp[d]))
theorem ziH{α:Type}{l:List α}(h:∀x,x∉l):l=[]:=by
 cases l with
 |nil=>rfl
 |cons a l=>exact absurd (by simp) (h a)
def awC:Cf:=⟨1,9,0,2,4,9,1,fun _=> -1,fun _=>2,fun _=>100⟩
theorem zaS:qd awC.s awC.le awC.la awC.wi awC.ke awC.qu awC.n awC.F awC.W awC.K=true:=by decide
theorem X9:awC.ok:=ja zaS
theorem zkx:awC.fits:=⟨by decide,rfl,⟨1,by omega,rfl⟩,fun i a=>⟨by show(-1:Int)<= -1;omega,by show(-1:Int)<((1:Nat):Int);omega⟩,fun i a=>⟨1,by omega,rfl⟩,fun i a=>by
 have e:i=0:=by have:awC.n=1:=rfl;omega
 subst e;rfl⟩
def awR:Sg:=⟨-1,1,0⟩
def awT:Sg:=⟨0,1,0⟩
def zqr:Cl:=⟨1,7,7,7⟩
def zhq:LV:=[(awR,⟨1,zqr⟩),(awT,⟨2,qA⟩)]
def zkl:LV:=[(awR,⟨1,zqr⟩),(awT,⟨3,zqr⟩)]
def zpA:LV:=[(awT,⟨3,zqr⟩)]
theorem zht:qS zhq awT ⟨3,xx (xe awC zhq 1 0 0)⟩=zkl:=by kernel_rfl
theorem VF:inR awC awR:=by unfold inR Sg.wf xz awR awC;dsimp only;omega
theorem zaT:inR awC awT:=by unfold inR Sg.wf xz awT awC;dsimp only;omega
theorem zpB:yw awC awR=[awT]:=by rfl
theorem zqD:yw awC awT=[]:=by rfl
def zqs:List (Jk×Tsk):=[(⟨1,awT⟩,⟨true,awT,6,0,0⟩)]
def zqt:List (Jk×Tsk):=[(⟨2,awR⟩,⟨false,awR,6,0,0⟩)]
def zqz:MS:=⟨0,zhq,[],0,[],[]⟩
def zqA:MS:=⟨6,zhq,[],0,zqs,[]⟩
def awQ1:List (Tok×Lse):=[(⟨1,1⟩,⟨1,awT,0,15⟩)]
def zpr:MS:=⟨6,zhq,[],1,zqs,awQ1⟩
def zqB:MS:=⟨6,zkl,[],1,zqt,[]⟩
def awQ2:List (Tok×Lse):=[(⟨1,2⟩,⟨2,awR,0,15⟩)]
def zqC:MS:=⟨6,zkl,[],2,zqt,awQ2⟩
theorem zkA(h:xB awC ⟨6,zhq,[],0,[],[]⟩ TL'):TL'=zqs:=by
 obtain⟨g,c,f,p,i,o,rfl⟩:=h.tO;dsimp only at*;have q:zk g=[]:=ziH (fun x e=>by
  obtain⟨k,a,d,e⟩:=(p x).1 e;simp[zhq,zn]at a;rcases a with rfl|rfl
  ·exact absurd d (by decide)
  ·rw[zqD]at e;cases e)
 have j:∀k,zE g k=A:=fun k=>xy.2 (by rw[q];simp);have l:∀s∈c,s=awT:=fun s d=>by
  obtain⟨a,b⟩:=(i s).1 d;simp[zhq,zn]at a;rcases a with rfl|rfl
  ·unfold yU at b;rw[j]at b;exact absurd b (by decide)
  ·rfl
 have m:awT∈c:=(i awT).2 ⟨by simp[zhq,zn],by unfold yU;rw[j];decide⟩;have n:f=[]:=ziH (fun s d=>by
  obtain⟨a,b⟩:=(o s).1 d;simp[zhq,zn]at a;unfold yT at b;simp only[Bool.and_eq_true]at b;rcases a with rfl|rfl
  ·exact(VS X9 VF).1 b.2 awT (by rw[zpB];simp) (by decide)
  ·exact absurd b.1.1 (by decide))
 rw[n];exact zbk (yp 6) awT [] zqs (by rfl) (by rfl) c l m
theorem zkB(h:xB awC ⟨6,zkl,[],num,[],[]⟩ TL'):TL'=zqt:=by
 obtain⟨m,f,b,n,l,g,rfl⟩:=h.tO;dsimp only at*;have i:f=[]:=ziH (fun s d=>by
  obtain⟨c,a⟩:=(l s).1 d;simp[zkl,zn]at c;unfold yU at a;simp only[Bool.and_eq_true]at a;rcases c with rfl|rfl
  ·exact absurd a.1.2 (by decide)
  ·exact absurd a.1.2 (by decide))
 have j:∀s∈b,s=awR:=fun s d=>by
  obtain⟨c,a⟩:=(g s).1 d;simp[zkl,zn]at c;unfold yT at a;simp only[Bool.and_eq_true]at a;rcases c with rfl|rfl
  ·rfl
  ·exact absurd a.1.2 (by decide)
 have k:awR∈b:=(g awR).2 ⟨by simp[zkl,zn],by
  unfold yT;simp only[Bool.and_eq_true];refine⟨⟨by decide,by decide⟩,(VS X9 VF).2 (fun x e=>?_)⟩;rw[zpB]at e;simp at e;subst e
  decide⟩
 rw[i];exact zbk (yS 6) awR [] zqt (by rfl) (by rfl) b j k
end Go.Proofs.YtndhpgciopcncaaGreatDoor
