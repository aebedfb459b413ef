import Derived.Test.YtndhpgciopcncaaGreatDoorXConf0
import Derived.Deep.RegionHeld3
open Option renaming some → J
open Go.RowKit renaming Below → Y
open Nat renaming le_refl → Z
open Go.RowKit.Below renaming refl → N
open Go renaming World → S
open Option renaming none → D
open Nat renaming lt_of_lt_of_le → M
open Go renaming Value → V
open Nat renaming zero_le → d
set_option linter.unusedVariables false
set_option maxRecDepth 8000
set_option maxHeartbeats 8000000
open Go.Proofs.Tryz
open Go renaming undef → u_
namespace Go.Proofs.YtndhpgciopcncaaGreatDoor
open Go.RowKit
variable {K:Act->S->Prop} {ops:Array Oper} {c:Cf} {Q:Exit->Act->S->Prop} {kind se t tm val we:Int} {L l:List Sg} {xs:List V} {B B2 base g i k n p size:Nat} {o:Oper} {P:Program} {E:Prop} {b s:Sg} {a x:Tk} {gv kv nv pv tv v z:V} {w w':S}
def RM.query(m:RM)(t se we:Int):Cl×Int:=
 if t< -1\/m.c.n<=t\/se<0\/4<=se\/we<0\/100000<we then(⟨0,0,0,0⟩,2)
 else if m.now-m.c.la<m.c.end ⟨t,se,we⟩then(⟨0,0,0,0⟩,9)
 else if(xy m.c ⟨t,se,we⟩ m.nu).cnt=0 then(⟨0,0,0,0⟩,10)
 else if(⟨t,se,we⟩:Sg)∈m.gone then(⟨0,0,0,0⟩,12)
 else if 0<=t/\¬(⟨t,se,we⟩:Sg)∈m.pub then(⟨0,0,0,0⟩,11)
 else(xy m.c ⟨t,se,we⟩ m.nu,0)
variable {m:RM}
theorem vR(h:t< -1\/m.c.n<=t\/se<0\/4<=se\/we<0\/100000<we):m.query t se we=(⟨0,0,0,0⟩,2):=by simp[RM.query,h]
theorem Jp(h:¬(t< -1\/m.c.n<=t\/se<0\/4<=se\/we<0\/100000<we))(a:m.now-m.c.la<m.c.end ⟨t,se,we⟩):m.query t se we=(⟨0,0,0,0⟩,9):=by
 unfold RM.query;rw[if_neg h,if_pos a]
theorem V7(h:¬(t< -1\/m.c.n<=t\/se<0\/4<=se\/we<0\/100000<we))(a:¬m.now-m.c.la<m.c.end ⟨t,se,we⟩)(b:(xy m.c ⟨t,se,we⟩ m.nu).cnt=0):m.query t se we=(⟨0,0,0,0⟩,10):=by
 unfold RM.query;rw[if_neg h,if_neg a,if_pos b]
theorem Jo(h:¬(t< -1\/m.c.n<=t\/se<0\/4<=se\/we<0\/100000<we))(a:¬m.now-m.c.la<m.c.end ⟨t,se,we⟩)(b:¬(xy m.c ⟨t,se,we⟩ m.nu).cnt=0)(e:(⟨t,se,we⟩:Sg)∈m.gone):m.query t se we=(⟨0,0,0,0⟩,12):=by
 unfold RM.query;rw[if_neg h,if_neg a,if_neg b,if_pos e]
theorem Jq(h:¬(t< -1\/m.c.n<=t\/se<0\/4<=se\/we<0\/100000<we))(a:¬m.now-m.c.la<m.c.end ⟨t,se,we⟩)(b:¬(xy m.c ⟨t,se,we⟩ m.nu).cnt=0)(e:¬(⟨t,se,we⟩:Sg)∈m.gone)(f:0<=t/\¬(⟨t,se,we⟩:Sg)∈m.pub):m.query t se we=(⟨0,0,0,0⟩,11):=by
 unfold RM.query;rw[if_neg h,if_neg a,if_neg b,if_neg e,if_pos f]
theorem zat(h:¬(t< -1\/m.c.n<=t\/se<0\/4<=se\/we<0\/100000<we))(a:¬m.now-m.c.la<m.c.end ⟨t,se,we⟩)(b:¬(xy m.c ⟨t,se,we⟩ m.nu).cnt=0)(e:¬(⟨t,se,we⟩:Sg)∈m.gone)(f:¬(0<=t/\¬(⟨t,se,we⟩:Sg)∈m.pub)):m.query t se we=(xy m.c ⟨t,se,we⟩ m.nu,0):=by
 unfold RM.query;rw[if_neg h,if_neg a,if_neg b,if_neg e,if_neg f]
theorem qU{A:Cl}{x:Int}(h:m.query t se we=(A,x)):Ending.returned (.tuple #[.agg #[I A.cnt,I A.sum,i_ A.mn,i_ A.mx],I x])=.returned (.tuple #[clV (m.query t se we).1,I (m.query t se we).2]):=by rw[h];rfl
theorem Ju(h:zR B w p m tv nv pv gv kv)(hc:m.c.ok)(aC:m.nu.length<=1000000000)(aM:m.gone.length<=1000000000000)(aW:m.pub.length<=1000000000000)(al:∀x∈m.nu,x.ok)(aL:0<=m.now/\m.now<=100000)(t se we:Int):
  Calls prog 144 #[(O p),I t,I se,I we] w (Rz w (.tuple #[clV (m.query t se we).1,I (m.query t se we).2])):=by
 have H:=ze h;have b1:=zo w kq;have E:B_ w (w.alloc kq):=(N _ _).alloc (Z _) _;have hp:=h.lt;obtain⟨at_,ct,aF⟩:=zq h.trow;subst aF;obtain⟨c0,c1,c2,c3,c4,c5,c6⟩:=h.conf;clear c0 c1 c3 c4 c5;obtain⟨r7,r8,r9,aa,ab,ac,ad⟩:=h.rest;clear r8 r9 aa ab ac ad;have B1:=ze b1;clear h b1;by_cases i:t< -1
 ·have k:=ze (vR (m:=m) (t:=t) (se:=se) (we:=we) (.inl i));go_in;go_wp2_with fail;refine bodyPost_ret (v:=.tuple #[.agg #[I 0,I 0,i_ 0,i_ 0],I 2]) (zn results144 _ _ w.1.size _ _ _ _ _ rfl rfl (zo w _) underlying115 rfl (by kernel_rfl)) rfl ⟨qU k,E⟩
 have aN:=i;clear i;by_cases i:(m.c.n:Int)<=t
 ·have k:=ze (vR (m:=m) (t:=t) (se:=se) (we:=we) (.inr (.inl i)));go_in;go_wp2_with fail;refine bodyPost_ret (v:=.tuple #[.agg #[I 0,I 0,i_ 0,i_ 0],I 2]) (zn results144 _ _ w.1.size _ _ _ _ _ rfl rfl (zo w _) underlying115 rfl (by kernel_rfl)) rfl ⟨qU k,E⟩
 have aO:=i;clear i;by_cases i:se<0
 ·have k:=ze (vR (m:=m) (t:=t) (se:=se) (we:=we) (.inr (.inr (.inl i))));go_in;go_wp2_with fail;refine bodyPost_ret (v:=.tuple #[.agg #[I 0,I 0,i_ 0,i_ 0],I 2]) (zn results144 _ _ w.1.size _ _ _ _ _ rfl rfl (zo w _) underlying115 rfl (by kernel_rfl)) rfl ⟨qU k,E⟩
 have aP:=i;clear i;by_cases i:4<=se
 ·have k:=ze (vR (m:=m) (t:=t) (se:=se) (we:=we) (.inr (.inr (.inr (.inl i)))));go_in;go_wp2_with fail;refine bodyPost_ret (v:=.tuple #[.agg #[I 0,I 0,i_ 0,i_ 0],I 2]) (zn results144 _ _ w.1.size _ _ _ _ _ rfl rfl (zo w _) underlying115 rfl (by kernel_rfl)) rfl ⟨qU k,E⟩
 have aQ:=i;clear i;by_cases i:we<0
 ·have k:=ze (vR (m:=m) (t:=t) (se:=se) (we:=we) (.inr (.inr (.inr (.inr (.inl i))))));go_in;go_wp2_with fail;refine bodyPost_ret (v:=.tuple #[.agg #[I 0,I 0,i_ 0,i_ 0],I 2]) (zn results144 _ _ w.1.size _ _ _ _ _ rfl rfl (zo w _) underlying115 rfl (by kernel_rfl)) rfl ⟨qU k,E⟩
 have aR:=i;clear i;by_cases i:100000<we
 ·have k:=ze (vR (m:=m) (t:=t) (se:=se) (we:=we) (.inr (.inr (.inr (.inr (.inr i))))));go_in;go_wp2_with fail;refine bodyPost_ret (v:=.tuple #[.agg #[I 0,I 0,i_ 0,i_ 0],I 2]) (zn results144 _ _ w.1.size _ _ _ _ _ rfl rfl (zo w _) underlying115 rfl (by kernel_rfl)) rfl ⟨qU k,E⟩
 have aS:=i;clear i;have a7:¬(t< -1\/m.c.n<=t\/se<0\/4<=se\/we<0\/100000<we):=by omega
 have P:=ze a7;clear a7;obtain⟨b0,b1,a,bz⟩:=box2 w kq (.cells #[I t,I se,I we] 287);have a8: -1<=t:=by omega
 have a9:t<m.c.n:=by omega
 have ao:0<=we:=by omega
 have aq:we<=100000:=by omega
 have aT:=hc.la;have ah:=ze (JO (H.later a) hc ⟨t,se,we⟩ a8 a9 ao aq);have aA:=hc.ends (s:=⟨t,se,we⟩) a8 a9 ao aq;obtain⟨aJ,aK⟩:=aA;obtain⟨sg,aE⟩:∃sg:Sg,sg=⟨t,se,we⟩:=⟨_,rfl⟩;have B0:=ze b0;have B1:=ze b1;have BZ:=ze bz;clear b0 b1 bz;go_in;go_wp2_with fail;generalize hW:((w.alloc kq).alloc (.cells #[I t,I se,I we] 287))=W at*;refine ah.mono ?_;rintro e w1 ⟨rfl,a0⟩;have aX:=hp;have d2:Cz w1 p 2 (I m.c.la):=((a.trans (a0.mono a.size)).cell (p:=(U p 2)) hp).trans c2;have d7:Cz w1 p 7 (I m.now):=((a.trans (a0.mono a.size)).cell (p:=(U p 7)) hp).trans r7;have aU:p<w1.1.size:=M hp (a.trans (a0.mono a.size)).size;have K:Nonempty (zm w1.1.size w1):=zm.some _ _;have F:=fun(u:zm w1.1.size w1) b o h=>u.cell b o h;have Q:=ze a0;clear c2 r7 c6 a0 aE sg;by_cases ho:m.now-m.c.la<m.c.end ⟨t,se,we⟩
 ·have k:=ze (Jp P ho);go_wp2_with fail;refine zh w1.1.size (by kernel_rfl) (by kernel_rfl) ?_;repeat(go_big_quiet_step (fail))
  refine wpQuiet_nil ?_;rintro⟨w2,a3⟩;dsimp only;clear F K;have y:=ze (Q.trans (a3.mono Q.size));have f:=(y.block w.1.size (by have:=ud BZ;omega)).trans B0;obtain⟨f0,f1,f2,f3,-⟩:=zc f;have ff:∀j,w2.frozen? (U w.1.size j)=false:=fun j=>zI f j;have a1:w.1.size<w2.1.size:=zd f;have QZ:=ze f;clear f;go_wp2_with fail;have hf:=zor QZ (I 0) (I 0) (i_ 0) (i_ 0);refine bodyPost_ret (v:=.tuple #[.agg #[I 0,I 0,i_ 0,i_ 0],I 9]) (zn results144 _ _ w.1.size _ _ _ _ _ rfl rfl hf underlying115 rfl (by kernel_rfl)) rfl ⟨qU k,?_⟩;refine(a.trans (y.mono a.size)).trans ?_;repeat(refine qC ?_ (Z _))
  exact N _ _
 ·go_wp2_with fail;refine zh w1.1.size (by kernel_rfl) (by kernel_rfl) ?_;repeat(go_big_quiet_step (fail))
  refine wpQuiet_nil ?_;rintro⟨w2,a3⟩;dsimp only;clear F K;have a2:=ze (Q.trans (a3.mono Q.size));have q:=(a2.block (w.1.size+1) (by have:=ud BZ;omega)).trans B1;obtain⟨s0,s1,s2,-⟩:=zc q;have l:=a.trans (a2.mono a.size);have af:=ze (zej (H.later l) hc aC al ⟨t,se,we⟩ a8 a9);clear q d2 d7 a3 Q;go_wp2_with fail;refine af.mono ?_;rintro e w3 ⟨rfl,a4⟩;have ak:∀o,B_ w2 (w3.alloc o):=fun o=>a4.alloc a4.size o;have ar:∀o,(w3.alloc o).1[w3.1.size]?=J o:=fun o=>zo w3 o;have au:∀o,w3.1.size<(w3.alloc o).1.size:=fun o=>by rw[zE];omega
  have az:=kM (c:=m.c) (s:=⟨t,se,we⟩) (nu:=m.nu) al;have z:Hid (∀A,A=xy m.c ⟨t,se,we⟩ m.nu->(A.cnt=0->m.query t se we=(⟨0,0,0,0⟩,10))/\(¬A.cnt=0->(⟨t,se,we⟩:Sg)∈m.gone->m.query t se we=(⟨0,0,0,0⟩,12))/\(¬A.cnt=0->¬(⟨t,se,we⟩:Sg)∈m.gone->(0<=t/\¬(⟨t,se,we⟩:Sg)∈m.pub)->m.query t se we=(⟨0,0,0,0⟩,11))/\(¬A.cnt=0->¬(⟨t,se,we⟩:Sg)∈m.gone->¬(0<=t/\¬(⟨t,se,we⟩:Sg)∈m.pub)->m.query t se we=(A,0))):=fun A hA=>by
   subst hA;exact⟨V7 P (by omega),Jo P (by omega),Jq P (by omega),zat P (by omega)⟩
  have z:=ze (ud z _ rfl);have aY:p<w3.1.size:=M hp (l.trans (a4.mono l.size)).size;generalize xy m.c ⟨t,se,we⟩ m.nu=A at*;obtain⟨aH,aI,-⟩:=az;go_wp2_with fail;have ax:=ze (ar (.cells #[I A.cnt,I A.sum,i_ A.mn,i_ A.mx] 115));have ae:=ze (ak (.cells #[I A.cnt,I A.sum,i_ A.mn,i_ A.mx] 115));have ay:=ze (au (.cells #[I A.cnt,I A.sum,i_ A.mn,i_ A.mx] 115));clear ar ak au s0 s1 s2;generalize hX:(w3.alloc (.cells #[I A.cnt,I A.sum,i_ A.mn,i_ A.mx] 115))=X at*;clear hX;have ai:B_ w X:=l.trans (ae.mono l.size);have T:=ze (a2.trans (ae.mono a2.size));have q:=(T.block (w.1.size+1) (by have:=ud BZ;omega)).trans B1;obtain⟨s0,s1,s2,-⟩:=zc q;have a5:w.1.size+1<X.1.size:=zd q;have C:=ze (H.later ai);obtain⟨r7,r8,r9,aa,ab,ac,ad⟩:=C.rest;have am:=C.lt;obtain⟨ag,cg,aB⟩:=zq C.grow;subst aB;obtain⟨ap,cp,aD⟩:=zq C.prow;subst aD;have av:=ze (fun(u:zm X.1.size X)=>qq B m.gone _ ⟨t,se,we⟩ u.1 (by omega) (C.later u.2).grow);have aw:=ze (fun(L:S) (g:B_ X L) (u:zm L.1.size L)=>qq B m.pub _ ⟨t,se,we⟩ u.1 (by omega) (C.later (g.trans (u.2.mono g.size))).prow);have K:Nonempty (zm X.1.size X):=zm.some _ _;have F:=fun(u:zm X.1.size X) b o h=>u.cell b o h;clear q r7 r8 ab ac ad a4 af l;refine zh X.1.size (by kernel_rfl) (by kernel_rfl) ?_;repeat(go_big_quiet_step (first|(go_at_call 218;exact Calls.later (Z _) (ud av _))))
  refine wpQuiet_nil ?_;rintro⟨L,g⟩;dsimp only;clear F K;have y9:=(g.cell (p:=(U p 9)) am).trans r9;have y0:=(g.cell (p:=(U (w.1.size+1) 0)) a5).trans s0;have y1:=(g.cell (p:=(U (w.1.size+1) 1)) a5).trans s1;have y2:=(g.cell (p:=(U (w.1.size+1) 2)) a5).trans s2;have aV:p<L.1.size:=M am g.size;have aZ:w.1.size+1<L.1.size:=M a5 g.size;have K:Nonempty (zm L.1.size L):=zm.some _ _;have F:=fun(u:zm L.1.size L) b o h=>u.cell b o h;go_wp2_with fail;refine zh L.1.size (by kernel_rfl) (by kernel_rfl) ?_;repeat(go_big_quiet_step (first|(go_at_call 218;exact Calls.later (Z _) (ud aw L g _))))
  refine wpQuiet_nil ?_;rintro⟨w5,aj⟩;dsimp only;clear F K;have a6:B_ X w5:=g.trans (aj.mono g.size);have y:=ze (T.trans (a6.mono T.size));have qa:=(a6.block w3.1.size ay).trans ax;obtain⟨g0,g1,g2,g3,-⟩:=zc qa;clear qa y0 y1 y2 y9 s0 s1 s2 r9 aa g aj;by_cases hz:A.cnt=0
  ·have k:=ze (z.1 hz);have aG:(A.cnt==0)=true:=(by simp[hz]);clear hz;have f:=(y.block w.1.size (by have:=ud BZ;omega)).trans B0;obtain⟨f0,f1,f2,f3,-⟩:=zc f;have ff:∀j,w5.frozen? (U w.1.size j)=false:=fun j=>zI f j;have a1:w.1.size<w5.1.size:=zd f;have QZ:=ze f;clear f;go_wp2_with fail;have hf:=zor QZ (I 0) (I 0) (i_ 0) (i_ 0);refine bodyPost_ret (v:=.tuple #[.agg #[I 0,I 0,i_ 0,i_ 0],I 10]) (zn results144 _ _ w.1.size _ _ _ _ _ rfl rfl hf underlying115 rfl (by kernel_rfl)) rfl ⟨qU k,?_⟩;refine(a.trans (y.mono a.size)).trans ?_;repeat(refine qC ?_ (Z _))
   exact N _ _
  ·have aG:(A.cnt==0)=false:=(by simp[hz]);rcases vC ⟨t,se,we⟩ m.gone with⟨hm,r⟩|⟨hm,r⟩
   ·have k:=ze (z.2.1 hz r);rw[hm];clear hz hm r;have f:=(y.block w.1.size (by have:=ud BZ;omega)).trans B0;obtain⟨f0,f1,f2,f3,-⟩:=zc f;have ff:∀j,w5.frozen? (U w.1.size j)=false:=fun j=>zI f j;have a1:w.1.size<w5.1.size:=zd f;have QZ:=ze f;clear f;go_wp2_with fail;have hf:=zor QZ (I 0) (I 0) (i_ 0) (i_ 0);refine bodyPost_ret (v:=.tuple #[.agg #[I 0,I 0,i_ 0,i_ 0],I 12]) (zn results144 _ _ w.1.size _ _ _ _ _ rfl rfl hf underlying115 rfl (by kernel_rfl)) rfl ⟨qU k,?_⟩;refine(a.trans (y.mono a.size)).trans ?_;repeat(refine qC ?_ (Z _))
    exact N _ _
   ·by_cases hw:0<=t/\¬(⟨t,se,we⟩:Sg)∈m.pub
    ·have k:=ze (z.2.2.1 hz r hw);rw[hm,QS hw.2];have an:=hw.1;clear hz hm r hw;have f:=(y.block w.1.size (by have:=ud BZ;omega)).trans B0;obtain⟨f0,f1,f2,f3,-⟩:=zc f;have ff:∀j,w5.frozen? (U w.1.size j)=false:=fun j=>zI f j;have a1:w.1.size<w5.1.size:=zd f;have QZ:=ze f;clear f;go_wp2_with fail;have hf:=zor QZ (I 0) (I 0) (i_ 0) (i_ 0);refine bodyPost_ret (v:=.tuple #[.agg #[I 0,I 0,i_ 0,i_ 0],I 11]) (zn results144 _ _ w.1.size _ _ _ _ _ rfl rfl hf underlying115 rfl (by kernel_rfl)) rfl ⟨qU k,?_⟩;refine(a.trans (y.mono a.size)).trans ?_;repeat(refine qC ?_ (Z _))
     exact N _ _
    ·have k:=ze (z.2.2.2 hz r hw);rw[hm];clear hz r hm;by_cases an:0<=t
     ·rw[vQ (Classical.not_not.1 (fun h=>hw ⟨an,h⟩))];clear hw;have f:=(y.block w.1.size (by have:=ud BZ;omega)).trans B0;obtain⟨f0,f1,f2,f3,-⟩:=zc f;have ff:∀j,w5.frozen? (U w.1.size j)=false:=fun j=>zI f j;have a1:w.1.size<w5.1.size:=zd f;have QZ:=ze f;clear f;go_wp2_with fail;have hf:=zor QZ (I A.cnt) (I A.sum) (i_ A.mn) (i_ A.mx);refine bodyPost_ret (v:=.tuple #[.agg #[I A.cnt,I A.sum,i_ A.mn,i_ A.mx],I 0]) (zn results144 _ _ w.1.size _ _ _ _ _ rfl rfl hf underlying115 rfl (by kernel_rfl)) rfl ⟨qU k,?_⟩;refine(a.trans (y.mono a.size)).trans ?_;repeat(refine qC ?_ (Z _))
      exact N _ _
     ·clear hw;have f:=(y.block w.1.size (by have:=ud BZ;omega)).trans B0;obtain⟨f0,f1,f2,f3,-⟩:=zc f;have ff:∀j,w5.frozen? (U w.1.size j)=false:=fun j=>zI f j;have a1:w.1.size<w5.1.size:=zd f;have QZ:=ze f;clear f;go_wp2_with fail;have hf:=zor QZ (I A.cnt) (I A.sum) (i_ A.mn) (i_ A.mx);refine bodyPost_ret (v:=.tuple #[.agg #[I A.cnt,I A.sum,i_ A.mn,i_ A.mx],I 0]) (zn results144 _ _ w.1.size _ _ _ _ _ rfl rfl hf underlying115 rfl (by kernel_rfl)) rfl ⟨qU k,?_⟩;refine(a.trans (y.mono a.size)).trans ?_;repeat(refine qC ?_ (Z _))
      exact N _ _
def onB(c:Cf)(a b:Sg):Bool:=if a.t= -1\/c.F a.t.toNat≠b.t\/a.se≠b.se then false else(b.we*c.wh b.t/c.wh a.t==a.we)
theorem on_1{a:Sg}(h:a.t= -1):onB c a b=false:=by simp[onB,h]
theorem on_2{a:Sg}(h:c.F a.t.toNat≠b.t):onB c a b=false:=by simp[onB,h]
theorem on_3{a:Sg}(h:a.se≠b.se):onB c a b=false:=by simp[onB,h]
theorem on_4{a:Sg}(e:¬a.t= -1)(f:c.F a.t.toNat=b.t)(g:a.se=b.se):onB c a b=(b.we*c.wh b.t/c.wh a.t==a.we):=by
 unfold onB;rw[if_neg];rintro(h|h|h)
 ·exact e h
 ·exact h f
 ·exact h g
theorem zeL(h:zR B w p m tv nv pv gv kv)(hc:m.c.ok)(a b:Sg)(a3: -1<=a.t)(a4:a.t<m.c.n)(f: -1<=b.t)(y:b.t<m.c.n)(a5:0<=b.we)(a6:b.we<=100000):
  Calls prog 301 #[(O p),.agg #[I a.t,I a.se,I a.we],.agg #[I b.t,I b.se,I b.we]] w (Rz w (.bool (onB m.c a b))):=by
 obtain⟨at_,cap,ak⟩:=zq h.trow;subst ak;have a7:=hc.n4;have hp:=h.lt;have a9:=TS.of_owns h.trow;obtain⟨y0,y1,A,yz⟩:=box2 w (.cells #[I a.t,I a.se,I a.we] 287) (.cells #[I b.t,I b.se,I b.we] 287);have hr:=h.later A;have H:=ze h;obtain⟨c0,c1,c2,c3,c4,c5,c6⟩:=hr.conf;have E:=a9.below A;clear h hr;go_in;go_wp2_with fail;generalize hW:((w.alloc (.cells #[I a.t,I a.se,I a.we] 287)).alloc (.cells #[I b.t,I b.se,I b.we] 287))=W at*;clear hW;have g:p<W.1.size:=by omega
 have aa:w.1.size<W.1.size:=by omega
 have ab:w.1.size+1<W.1.size:=by omega
 obtain⟨a0,a1,a2,-⟩:=zc y0;obtain⟨b0,b1,b2,-⟩:=zc y1;have YZ:=ze yz;have q:=ze A;have L:=ze E;clear y0 y1 yz A E a9;have l:Nonempty (zm W.1.size W):=zm.some _ _;have k:=fun(u:zm W.1.size W) b o h=>u.cell b o h;by_cases C:a.t= -1
 ·have HR:=ze (on_1 (c:=m.c) (b:=b) C);have X:(a.t== -1)=true:=by simp[C]
  clear C;refine zh W.1.size (by kernel_rfl) (by kernel_rfl) ?_;repeat(go_big_quiet_step (fail))
  refine wpQuiet_nil ?_;rintro⟨w1,f⟩;dsimp only;clear k l;go_wp2_with fail;go_ret;exact⟨zQ HR.symm,q.trans (f.mono q.size)⟩
 ·have X:(a.t== -1)=false:=by simp[C]
  obtain⟨i,hi⟩:=Int.eq_ofNat_of_zero_le (show 0<=a.t by omega);have aj:i<m.c.n:=by omega
  obtain⟨tb,off,ag,az,a8⟩:=ud L (by omega);subst ag;obtain⟨t1,t2,t3⟩:=a8 i aj;clear a8 t2 t3;have v:m.c.F a.t.toNat=m.c.F i:=by rw[hi];simp
  have x:a.t=i:=hi;have aw:(i:Int)<m.c.n:=by omega
  rw[x]at a0 X;by_cases P:m.c.F i=b.t
  ·have ae:(m.c.F i !=b.t)=false:=(by simp[P]);by_cases T:a.se=b.se
   ·have af:(a.se !=b.se)=false:=(by simp[T]);obtain⟨aA,aB⟩:=hc.wh a3 a4;obtain⟨aC,al⟩:=hc.wh f y;have HR:=ze (on_4 (c:=m.c) C (by rw[v];exact P) T);have ax:0<=b.we*m.c.wh b.t:=Int.mul_nonneg a5 (by omega);have ay:b.we*m.c.wh b.t<=100000*1000:=Int.mul_le_mul a6 al (by omega) (by omega);have au:=ze (show xp m.c.wi m.c.W a.t=m.c.wh a.t from rfl);have av:=ze (show xp m.c.wi m.c.W b.t=m.c.wh b.t from rfl);have ac:=ze (show∀(u:S),B_ W u->Calls prog 138 #[.agg #[I m.c.s,I m.c.le,I m.c.la,I m.c.wi,I m.c.ke,I m.c.qu,.slice (J (U tb off)) m.c.n cap],I b.t] u fun e w'=>e=.returned (I (m.c.wh b.t))/\B_ u w' from fun u hu=>jB _ _ _ _ _ _ _ _ cap m.c.F m.c.W m.c.K b.t f y a7 u (L.below hu));have ad:=ze (show∀(u:S),B_ W u->Calls prog 138 #[.agg #[I m.c.s,I m.c.le,I m.c.la,I m.c.wi,I m.c.ke,I m.c.qu,.slice (J (U tb off)) m.c.n cap],I i] u fun e w'=>e=.returned (I (m.c.wh a.t))/\B_ u w' from fun u hu=>by rw[<-x];exact jB _ _ _ _ _ _ _ _ cap m.c.F m.c.W m.c.K a.t a3 a4 a7 u (L.below hu));clear C P T v hi x;refine zh W.1.size (by kernel_rfl) (by kernel_rfl) ?_;repeat(go_big_quiet_step (fail))
    refine wpQuiet_nil ?_;rintro⟨w1,f⟩;dsimp only;clear k l;have z:=ze f;have k0:=(f.cell (p:=(U p 0)) g).trans c0;have k1:=(f.cell (p:=(U p 1)) g).trans c1;have k2:=(f.cell (p:=(U p 2)) g).trans c2;have k3:=(f.cell (p:=(U p 3)) g).trans c3;have k4:=(f.cell (p:=(U p 4)) g).trans c4;have k5:=(f.cell (p:=(U p 5)) g).trans c5;have k6:=(f.cell (p:=(U p 6)) g).trans c6;have k7:=(f.cell (p:=(U (w.1.size+1) 0)) ab).trans b0;have l1:=f.size;have am:p<w1.1.size:=(by omega);have ap:w.1.size+1<w1.1.size:=(by omega);have l:Nonempty (zm w1.1.size w1):=zm.some _ _;have k:=fun(u:zm w1.1.size w1) b o h=>u.cell b o h;go_wp2_with fail;refine zh w1.1.size (by kernel_rfl) (by kernel_rfl) ?_;repeat(go_big_quiet_step (first|(go_at_call 138;exact Calls.later (Z _) (ud ac _ (z.trans (Below.mono (Subtype.property _) z.size))))))
    refine wpQuiet_nil ?_;rintro⟨w2,y⟩;dsimp only;clear k l k7 f;have j:=ze (z.trans (y.mono z.size));have j0:=(j.cell (p:=(U p 0)) g).trans c0;have j1:=(j.cell (p:=(U p 1)) g).trans c1;have j2:=(j.cell (p:=(U p 2)) g).trans c2;have j3:=(j.cell (p:=(U p 3)) g).trans c3;have j4:=(j.cell (p:=(U p 4)) g).trans c4;have j5:=(j.cell (p:=(U p 5)) g).trans c5;have j6:=(j.cell (p:=(U p 6)) g).trans c6;have j7:=(j.cell (p:=(U w.1.size 0)) aa).trans a0;have l2:=j.size;have an:p<w2.1.size:=(by omega);have aq:w.1.size<w2.1.size:=(by omega);have l:Nonempty (zm w2.1.size w2):=zm.some _ _;have k:=fun(u:zm w2.1.size w2) b o h=>u.cell b o h;clear y;go_wp2_with fail;refine zh w2.1.size (by kernel_rfl) (by kernel_rfl) ?_;repeat(go_big_quiet_step (first|(go_at_call 138;exact Calls.later (Z _) (ud ad _ (j.trans (Below.mono (Subtype.property _) j.size))))))
    refine wpQuiet_nil ?_;rintro⟨Q,ah⟩;dsimp only;clear k l j7;have r:=ze (j.trans (ah.mono j.size));have m0:=(r.cell (p:=(U w.1.size 2)) aa).trans a2;have m1:=(r.cell (p:=(U (w.1.size+1) 2)) ab).trans b2;have l3:=r.size;have ar:w.1.size<Q.1.size:=(by omega);have ao:w.1.size+1<Q.1.size:=(by omega);have l:Nonempty (zm Q.1.size Q):=zm.some _ _;have k:=fun(u:zm Q.1.size Q) b o h=>u.cell b o h;go_wp2_with fail;refine zh Q.1.size (by kernel_rfl) (by kernel_rfl) ?_;repeat(go_big_quiet_step (fail))
    refine wpQuiet_nil ?_;rintro⟨w4,ai⟩;dsimp only;clear k l;go_wp2_with fail;go_ret;exact⟨zQ HR.symm,q.trans ((r.trans (ai.mono r.size)).mono q.size)⟩
   ·have HR:=ze (on_3 (c:=m.c) T);have af:(a.se !=b.se)=true:=(by simp[T]);clear C P T v hi x;refine zh W.1.size (by kernel_rfl) (by kernel_rfl) ?_;repeat(go_big_quiet_step (fail))
    refine wpQuiet_nil ?_;rintro⟨w1,f⟩;dsimp only;clear k l;go_wp2_with fail;go_ret;exact⟨zQ HR.symm,q.trans (f.mono q.size)⟩
  ·have HR:=ze (on_2 (c:=m.c) (a:=a) (b:=b) (by rw[v];exact P));have ae:(m.c.F i !=b.t)=true:=(by simp[P]);clear C P v hi x;refine zh W.1.size (by kernel_rfl) (by kernel_rfl) ?_;repeat(go_big_quiet_step (fail))
   refine wpQuiet_nil ?_;rintro⟨w1,f⟩;dsimp only;clear k l;go_wp2_with fail;go_ret;exact⟨zQ HR.symm,q.trans (f.mono q.size)⟩
section
variable {α:Type} (lt:α->α->Bool)
def ki(x:α):List α->List α
 |[]=>[x]
 |y::r=>if lt x y then x::y::r else y::ki x r
def vL(x:α)(l:List α):Bool:=l.any (fun y=>lt x y)
def yN(x:α)(l:List α):List α:=if vL lt x l then ki lt x l else l
theorem J0{x:α}:∀{l:List α},vL lt x l=false->ki lt x l=l++[x]
 |[],_=>rfl
 |y::l,h=>by
  simp only[vL,List.any_cons,Bool.or_eq_false_iff]at h;simp[ki,h.1,J0 (l:=l) h.2]
theorem J1{x:α}:∀{l:List α} {y:α},vL lt x l=true->ki lt x (l++[y])=ki lt x l++[y]
 |[],y,h=>by simp[vL]at h
 |z::l,y,h=>by
  rw[List.cons_append,ki,ki];by_cases e:lt x z=true
  ·simp[e]
  ·have a:lt x z=false:=(by simpa using e);rw[a];simp only[Bool.false_eq_true,if_false,List.cons_append];rw[J1 (l:=l) (y:=y) (by simpa[vL,a]using h)]
theorem zbv{x:α}:∀{l:List α} {y:α},vL lt x l=false->lt x y=true->ki lt x (l++[y])=l++[x]++[y]
 |[],y,_,a=>by simp[ki,a]
 |z::l,y,h,a=>by
  simp only[vL,List.any_cons,Bool.or_eq_false_iff]at h;simp only[List.cons_append,ki,h.1,Bool.false_eq_true,if_false];rw[zbv (l:=l) (y:=y) h.2 a]
theorem QB(x:α)(l:List α)(y:α):vL lt x (l++[y])=(vL lt x l||lt x y):=by simp[vL]
theorem zjd{x y:α}{l:List α}(h:vL lt x l=true):yN lt x (l++[y])=yN lt x l++[y]/\vL lt x (l++[y])=true:=by
 have a:vL lt x (l++[y])=true:=by rw[QB,h];rfl
 exact⟨by simp only[yN,h,a,if_true];exact J1 lt h,a⟩
theorem zgu{x y:α}{l:List α}(h:vL lt x l=false)(b:lt x y=true):yN lt x (l++[y])=yN lt x l++[x]++[y]/\vL lt x (l++[y])=true:=by
 have a:vL lt x (l++[y])=true:=by rw[QB,h,b];rfl
 exact⟨by simp only[yN,h,a,if_true,Bool.false_eq_true,if_false];exact zbv lt h b,a⟩
theorem zgv{x y:α}{l:List α}(h:vL lt x l=false)(b:lt x y=false):yN lt x (l++[y])=yN lt x l++[y]/\vL lt x (l++[y])=false:=by
 have a:vL lt x (l++[y])=false:=by rw[QB,h,b];rfl
 exact⟨by simp[yN,h,a],a⟩
theorem Jh(x:α)(l:List α):(yN lt x l).length<=l.length+1:=by
 unfold yN;split
 ·have:∀l:List α,(ki lt x l).length=l.length+1:=fun l=>by
   induction l with
   |nil=>rfl
   |cons y r a=>rw[ki];split<;>simp[a]
  rw[this];omega
 ·omega
end
def qw(a b:Tk):Bool:=if a.kind≠b.kind then decide (a.kind<b.kind)else if a.s.t≠b.s.t then decide (a.s.t<b.s.t)else if a.s.se≠b.s.se then decide (a.s.se<b.s.se)else decide (a.s.we<b.s.we)
theorem zpv{b:Tk}(h:¬a.kind=b.kind):qw a b=decide (a.kind<b.kind):=by simp[qw,h]
theorem zpw{b:Tk}(h:a.kind=b.kind)(c:¬a.s.t=b.s.t):qw a b=decide (a.s.t<b.s.t):=by simp[qw,h,c]
theorem zpx{b:Tk}(h:a.kind=b.kind)(c:a.s.t=b.s.t)(e:¬a.s.se=b.s.se):qw a b=decide (a.s.se<b.s.se):=by simp[qw,h,c,e]
theorem zpy{b:Tk}(h:a.kind=b.kind)(c:a.s.t=b.s.t)(e:a.s.se=b.s.se):qw a b=decide (a.s.we<b.s.we):=by simp[qw,h,c,e]
theorem zae(a b:Tk)(w:S):
  Calls prog 280 #[.agg (tkV a).toArray,.agg (tkV b).toArray] w (Rz w (.bool (qw a b))):=by
 have h:∀k l,B_ w ((w.alloc k).alloc l):=fun k l=>((N _ _).alloc (Z _) _).alloc (by simp) _;have e:=ze h;clear h;have i:(tkV a).toArray=(yZz a):=rfl;have j:(tkV b).toArray=(yZz b):=rfl;rw[i,j];clear i j;by_cases c:a.kind=b.kind
 ·have m:(a.kind !=b.kind)=false:=by simp[c]
  by_cases f:a.s.t=b.s.t
  ·have n:(a.s.t !=b.s.t)=false:=(by simp[f]);by_cases g:a.s.se=b.s.se
   ·have o:(a.s.se !=b.s.se)=false:=(by simp[g]);have HR:=ze (zpy c f g);clear c f g;go_in;go_wp2_with fail;go_ret;exact⟨zQ HR.symm,ud e _ _⟩
   ·have o:(a.s.se !=b.s.se)=true:=(by simp[g]);have HR:=ze (zpx c f g);clear c f g;go_in;go_wp2_with fail;go_ret;exact⟨zQ HR.symm,ud e _ _⟩
  ·have n:(a.s.t !=b.s.t)=true:=(by simp[f]);have HR:=ze (zpw c f);clear c f;go_in;go_wp2_with fail;go_ret;exact⟨zQ HR.symm,ud e _ _⟩
 ·have m:(a.kind !=b.kind)=true:=by simp[c]
  have HR:=ze (zpv c);clear c;go_in;go_wp2_with fail;go_ret;exact⟨zQ HR.symm,ud e _ _⟩
theorem Tryz.infoTask:(prog.info? 294).map (fun i=>(i.zero,i.size,i.bytes))=J (J (.agg #[I 0,I 0,I 0,I 0,I 0,I 0,I 0,I 0,I 0,I 0,I 0]),11,88):=by kernel_rfl
def yx(f:Tk):Obj:=.cells (yZz f) 294 (0,0)
theorem KZ{rest:List Oper}{a:Act}(j:o.guard=D)(s x:Operand)(r:o.op=.call {callee:=.builtin .append,args:=#[s,x],argTypes:=#[226,226]})(base:Nat)(v:V)(l:List Tk)(f:Tk)(t:a.eval s=v)(c:w.ownsRow base 294 11 v l.length (l.flatMap tkV))(e:Nat)(u:a.eval x=.slice (J (U e 0)) 1 1)(i:w.1[e]?=J (yx f))(y:l.length<=1099511627776)(b:base<=w.1.size)(h:∀g cap w',w'.ownsRow base 294 11 (.slice (J (U g 0)) (l.length+1) cap) (l++[f]).length ((l++[f]).flatMap tkV)->w'.ownsRow base 294 11 v l.length (l.flatMap tkV)->w.grownBy w' v.ownBlock->(v.ownBlock=J g\/g=w.1.size)->g<w'.1.size->wpList prog ops Q rest (a.put o.dst (.slice (J (U g 0)) (l.length+1) cap)) w'):wpList prog ops Q (o::rest) a w:=
 zO j s x 226 r base 294 _ 11 88 underlying226 Tryz.infoTask rfl (by decide) v l.length (l.flatMap tkV) t c (U e 0) 1 1 (tkV f) u rfl
  (World.news_of_block (cs:=(tkV f).toArray) i) (Y9 f) (by decide) (by simp only[maxLen];omega) (by omega) b
  fun g cap w' k m n p q=>h g cap w' (YL k) m n p q
theorem X9{e:TypeId}{l:List Tk}(h:w.ownsRow B e 11 v l.length (l.flatMap tkV))(b:l[i]?=J x):
  ∃g cap,v=.slice (J (U g 0)) l.length cap/\B<=g/\g<w.1.size/\w.cell? (U g (i*11))=J (I x.kind)/\w.cell? (U g (i*11+1))=J (I x.s.t)/\w.cell? (U g (i*11+2))=J (I x.s.se)/\w.cell? (U g (i*11+3))=J (I x.s.we)/\w.cell? (U g (i*11+4))=J (I x.si)/\w.cell? (U g (i*11+5))=J (I x.tc)/\w.cell? (U g (i*11+6))=J (I x.rest)/\w.cell? (U g (i*11+7))=J (I x.ep)/\w.cell? (U g (i*11+8))=J (I x.num)/\w.cell? (U g (i*11+9))=J (I x.slot)/\w.cell? (U g (i*11+10))=J (I x.till):=by
 have k:i<l.length:=(List.getElem?_eq_some_iff.1 b).1;obtain⟨g,cap,hv,c,a⟩:=h.form (by omega);rw[hv]at h;have e:∀j,j<11->w.cell? (U g (i*11+j))=(tkV x)[j]?:=fun j m=>by
  rw[h.cellAt _ (by omega)];exact qs (f:=tkV) yd l i x j b m
 exact⟨g,cap,hv,c,a,e 0 (by omega),e 1 (by omega),e 2 (by omega),e 3 (by omega),e 4 (by omega),e 5 (by omega),e 6 (by omega),e 7 (by omega),e 8 (by omega),e 9 (by omega),e 10 (by omega)⟩
theorem yw{b b':Nat}{e:TypeId}(h:w.ownsRow b e size v n xs)(f:b'<=b):w.ownsRow b' e size v n xs:=by
 refine⟨h.1,?_⟩;rcases h.2 with c|⟨g,cap,a,rfl,i,r⟩
 ·exact .inl c
 ·exact .inr ⟨g,cap,a,rfl,Nat.le_trans f i,r⟩
theorem zkt{l:List Tk}(h:l[i]?=J x):l.take (i+1)=l.take i++[x]:=by
 obtain⟨a,b⟩:=List.getElem?_eq_some_iff.1 h;rw[List.take_succ_eq_append_getElem a,b]
theorem xQ{f:Tk}(h:w.1[g]?=J (yx f)):w.cell? (U g 0)=J (I f.kind)/\w.cell? (U g 1)=J (I f.s.t)/\w.cell? (U g 2)=J (I f.s.se)/\w.cell? (U g 3)=J (I f.s.we)/\w.cell? (U g 4)=J (I f.si)/\w.cell? (U g 5)=J (I f.tc)/\w.cell? (U g 6)=J (I f.rest)/\w.cell? (U g 7)=J (I f.ep)/\w.cell? (U g 8)=J (I f.num)/\w.cell? (U g 9)=J (I f.slot)/\w.cell? (U g 10)=J (I f.till):=by
 refine⟨?_,?_,?_,?_,?_,?_,?_,?_,?_,?_,?_⟩<;>rw[xd h]<;>rfl
theorem zmE(B:Nat)(l:List Tk)(v:V)(t:Tk)(w:S)(hl:l.length<=1000000000000)(h:w.ownsRow B 294 11 v l.length (l.flatMap tkV)):
  Calls prog 278 #[v,.agg (yZz t)] w fun e w'=>∃v',e=.returned v'/\w'.ownsRow w.1.size 294 11 v' (ki qw t l).length ((ki qw t l).flatMap tkV)/\B_ w w':=by
 obtain⟨a0,aC,hv⟩:=zq h;subst hv;have H:=ze h;have aH:w.1.size<(w.alloc (yx t)).1.size:=by rw[zE];omega
 have an:B_ w (w.alloc (yx t)):=(N _ _).alloc (Z _) _;have a1:=zo w (yx t);have a6:=ze a1;have HZ:=ze (zE w (yx t));clear h a1;go_in;go_wp2_with fail;have a8:(w.alloc (yx t))=(w.alloc (.cells (yZz t) 294)):=rfl;rw[<-a8];clear a8;generalize(w.alloc (yx t))=W at*;go_loopw [5,6,7,8] (fun z b y _ wr=>∃(i:Nat),i<=l.length/\y=I i/\b=.bool (vL qw t (l.take i))/\wr.ownsRow (w.1.size+1) 294 11 z (yN qw t (l.take i)).length ((yN qw t (l.take i)).flatMap tkV)/\Y (w.1.size+1) W wr) (fun _ _ y _ _=>l.length-(intOf y).toNat);case atStart=>exact⟨0,d _,rfl,rfl,World.ownsRow_nil _ _ _ _,N _ _⟩
 case round=>
  obtain⟨i,hi,rfl,rfl,hz,hb⟩:=hrel;obtain⟨az,cz,ax⟩:=zq hz;subst ax;have ab:B_ w wr:=an.trans (hb.mono (by omega));have HB:=ze hb;have a2:=ze ab;have C:=ze hz;have r:=(hb.block w.1.size (by omega)).trans a6;obtain⟨t0,t1,t2,t3,t4,t5,t6,t7,t8,t9,ay⟩:=xQ r;have al:=ze r;have aw:w.1.size<wr.1.size:=zd r;clear r hb ab hz;by_cases ap:i<l.length
  ·obtain⟨x,hx⟩:=xC ap;obtain⟨g,aB,av,aK,q,x0,x1,x2,x3,x4,x5,x6,x7,x8,x9,ai⟩:=X9 (zY H a2) hx;injection av with af ag ah;subst af;have aL:g<w.1.size:=by
    obtain⟨g',c',au,_,aF,_⟩:=X9 H hx;injection au with h1;injection h1 with h1;injection h1 with h1;omega
   have ae:=zkt hx;have aM:(i:Int)<l.length:=(by omega);have ar:Nonempty (zm wr.1.size wr):=zm.some _ _;have aq:=fun(u:zm wr.1.size wr) b o h=>u.cell b o h;have ad:=Jh qw t (l.take i);rw[List.length_take,Nat.min_eq_left hi]at ad;have am:=ze (fun(u:zm wr.1.size wr)=>zae t x u.1);have A:=ze ae;clear hx ag ah ae;go_wp2_with fail;refine zh wr.1.size (by kernel_rfl) (by kernel_rfl) ?_;repeat(go_big_quiet_step (first|(go_at_call 280;exact Calls.later (Z _) (ud am _))))
   refine wpQuiet_nil ?_;rintro⟨w1,f⟩;dsimp only;clear aq ar;have aE:=f.size;have FV:=ze (zY C f);have FB:=ze (HB.trans (f.mono (by omega)));have z0:=(f.cell (p:=(U g (i*11))) q).trans x0;have z1:=(f.cell (p:=(U g (i*11+1))) q).trans x1;have z2:=(f.cell (p:=(U g (i*11+2))) q).trans x2;have z3:=(f.cell (p:=(U g (i*11+3))) q).trans x3;have z4:=(f.cell (p:=(U g (i*11+4))) q).trans x4;have z5:=(f.cell (p:=(U g (i*11+5))) q).trans x5;have z6:=(f.cell (p:=(U g (i*11+6))) q).trans x6;have z7:=(f.cell (p:=(U g (i*11+7))) q).trans x7;have z8:=(f.cell (p:=(U g (i*11+8))) q).trans x8;have z9:=(f.cell (p:=(U g (i*11+9))) q).trans x9;have aj:=(f.cell (p:=(U g (i*11+10))) q).trans ai;have aI:g<w1.1.size:=(by omega);have aN:w.1.size<w1.1.size:=(by omega);have r:=(f.block _ aw).trans al;obtain⟨u0,u1,u2,u3,u4,u5,u6,u7,u8,u9,a5⟩:=xQ r;have aA:=ze r;clear r x0 x1 x2 x3 x4 x5 x6 x7 x8 x9 ai t0 t1 t2 t3 t4 t5 t6 t7 t8 t9 ay;cases c:vL qw t (l.take i)
   ·cases X:qw t x
    ·have E:=ze (zgv qw c X);clear c X u0 u1 u2 u3 u4 u5 u6 u7 u8 u9 a5;generalize yN qw t (l.take i)=P at*;go_wp2_with(first|(at_builtin;refine KZ rfl _ _ rfl (w.1.size+1) _ P x rfl (FV.alloc _) w1.1.size rfl (zo _ (yx x)) ?hll ?hbb ?_;(case hll=>omega);(case hbb=>(rw[zE];omega));intro g2 K w3 m O j a3 L)|fail);have s:Y (w.1.size+1) W w3:=((ud FB).alloc (by omega) _).grown j (by rw[zE];omega) (fun k T=>(FV.lt k T).1);exact⟨⟨i+1,by omega,by go_num,by rw[ud A,(ud E).2],by rw[ud A,(ud E).1];exact m,s⟩,by simp[intOf];omega⟩
    ·have E:=ze (zgu qw c X);clear c X;generalize yN qw t (l.take i)=P at*;go_wp2_with(first
      |(at_builtin;refine KZ rfl _ _ rfl (w.1.size+1) _ P t rfl (FV.alloc _) w1.1.size rfl (zo _ (yx t)) ?hll ?hbb ?_;(case hll=>omega);(case hbb=>(rw[zE];omega));intro g1 aD w2 Q a4 n a9 aG;have gb:∀k,k<w.1.size+1->w2.1[k]?=w1.1[k]?:=(fun k T=>(n.block k (by rw[zE];omega) (fun e=>by have:=(FV.lt k e.symm).1;omega)).trans (Below.heap_alloc _ _ _ (by omega)));have aa:Y (w.1.size+1) W w2:=(((ud FB).alloc (by omega) _).grown n (by rw[zE];omega) (fun k T=>(FV.lt k T).1));have aO:w1.1.size<w2.1.size:=(by have:=n.size;rw[zE]at this;omega);have aJ:g<w2.1.size:=(by omega);have y0:=(World.cell?_of_block (a:=(U g (i*11))) (gb g (by omega))).trans z0;have y1:=(World.cell?_of_block (a:=(U g (i*11+1))) (gb g (by omega))).trans z1;have y2:=(World.cell?_of_block (a:=(U g (i*11+2))) (gb g (by omega))).trans z2;have y3:=(World.cell?_of_block (a:=(U g (i*11+3))) (gb g (by omega))).trans z3;have y4:=(World.cell?_of_block (a:=(U g (i*11+4))) (gb g (by omega))).trans z4;have y5:=(World.cell?_of_block (a:=(U g (i*11+5))) (gb g (by omega))).trans z5;have y6:=(World.cell?_of_block (a:=(U g (i*11+6))) (gb g (by omega))).trans z6;have y7:=(World.cell?_of_block (a:=(U g (i*11+7))) (gb g (by omega))).trans z7;have y8:=(World.cell?_of_block (a:=(U g (i*11+8))) (gb g (by omega))).trans z8;have y9:=(World.cell?_of_block (a:=(U g (i*11+9))) (gb g (by omega))).trans z9;have aP:=(World.cell?_of_block (a:=(U g (i*11+10))) (gb g (by omega))).trans aj;have ak:=ze aa;have F:=ze Q;clear gb aa Q a4 n a9 z0 z1 z2 z3 z4 z5 z6 z7 z8 z9 aj u0 u1 u2 u3 u4 u5 u6 u7 u8 u9 a5)
      |(at_builtin;refine KZ rfl _ _ rfl (w.1.size+1) _ (P++[t]) x rfl (F.alloc _) w2.1.size rfl (zo _ (yx x)) ?hll ?hbb ?_;(case hll=>(rw[List.length_append];simp;omega));(case hbb=>(rw[zE];omega));intro g2 K w3 m O j a3 L)
      |fail)
     have ac:(P++[t]).length+1=P.length+1+1:=(by rw[List.length_append];rfl);rw[ac]at m;have s:Y (w.1.size+1) W w3:=((ud ak).alloc (by omega) _).grown j (by rw[zE];omega) (fun k T=>(F.lt k T).1);exact⟨⟨i+1,by omega,by go_num,by rw[ud A,(ud E).2],by rw[ud A,(ud E).1];exact m,s⟩,by simp[intOf];omega⟩
   ·have E:=ze (zjd qw (y:=x) c);clear c u0 u1 u2 u3 u4 u5 u6 u7 u8 u9 a5;generalize yN qw t (l.take i)=P at*;go_wp2_with(first|(at_builtin;refine KZ rfl _ _ rfl (w.1.size+1) _ P x rfl (FV.alloc _) w1.1.size rfl (zo _ (yx x)) ?hll ?hbb ?_;(case hll=>omega);(case hbb=>(rw[zE];omega));intro g2 K w3 m O j a3 L)|fail);have s:Y (w.1.size+1) W w3:=((ud FB).alloc (by omega) _).grown j (by rw[zE];omega) (fun k T=>(FV.lt k T).1);exact⟨⟨i+1,by omega,by go_num,by rw[ud A,(ud E).2],by rw[ud A,(ud E).1];exact m,s⟩,by simp[intOf];omega⟩
  ·have ao:i=l.length:=(by omega);have hT:l.take i=l:=(by rw[ao,List.take_length]);have ad:=Jh qw t l;rw[hT]at C;rw[hT];cases c:vL qw t l
   ·have E:=ze (J0 qw c);have a7:=ze (show yN qw t l=l by simp[yN,c]);rw[ud a7]at C;clear c;rw[ud a7];go_wp2_with(first|(at_builtin;refine KZ rfl _ _ rfl (w.1.size+1) _ l t rfl (C.alloc _) wr.1.size rfl (zo _ (yx t)) ?hll ?hbb ?_;(case hll=>omega);(case hbb=>(rw[zE];omega));intro g2 K w3 m O j a3 L)|fail);have s:B_ w w3:=((ud a2).alloc (by omega) _).grown j (by rw[zE];omega) (fun k T=>by have:=(C.lt k T).1;omega);go_ret;exact⟨_,rfl,by rw[ud E];exact yw m (by omega),s⟩
   ·have E:=ze (show yN qw t l=ki qw t l by simp[yN,c]);clear c;go_wp2_with fail;go_ret;exact⟨_,rfl,by rw[<-ud E];exact yw C (by omega),a2⟩
def zjT(c:Cf)(s:Sg):Prop:= -1<=s.t/\s.t<c.n/\0<=s.we/\s.we<=100000
def vs(m:RM)(s:Sg):Bool:=!(s.t== -1)&&!jX s m.pub&&!jX s m.gone&&!decide (m.now-m.c.la<m.c.end s)
def yj(m:RM)(s:Sg):Bool:=!jX s m.gone&&!(decide (0<=s.t)&&!jX s m.pub)&&!decide (m.now<m.c.end s+m.c.keep s.t)
def YC(m:RM)(s x:Sg):Bool:=onB m.c s x&&decide (0<=x.t)&&!jX x m.pub
def QD(m:RM)(s x:Sg):Bool:=onB m.c x s&&!jX x m.pub&&!jX x m.gone
def yb(m:RM)(s:Sg)(l:List Sg):Bool:=vs m s&&l.all (fun x=>!YC m s x)
def yt(m:RM)(s:Sg)(l:List Sg):Bool:=yj m s&&l.all (fun x=>!QD m s x)
theorem VM{p:Sg->Bool}(h:∀j x,j<l.length->l[j]?=J x->p x=true):l.all p=true:=by
 rw[List.all_eq_true];intro x b;obtain⟨j,a⟩:=List.getElem?_of_mem b;exact h j x (List.getElem?_eq_some_iff.1 a).1 a
theorem zhy{p:Sg->Bool}{x:Sg}(h:l[i]?=J x)(b:p x=false):l.all p=false:=by
 rw[Bool.eq_false_iff];intro a;rw[List.all_eq_true]at a;rw[a x (List.mem_of_getElem? h)]at b;cases b
theorem ZQ{p:Sg->Bool}{x:Sg}(h:∀j y,j<i->l[j]?=J y->p y=true)(c:l[i]?=J x)(b:p x=true):∀j y,j<i+1->l[j]?=J y->p y=true:=fun j y f a=>by
 by_cases e:j=i
 ·subst e;rw[c]at a;cases a;exact b
 ·exact h j y (by omega) a
theorem zgF(h:zR B w p m tv nv pv gv kv)(hc:m.c.ok)(aY:m.gone.length<=1000000000000)(b5:m.pub.length<=1000000000000)(aw:0<=m.now/\m.now<=100000)(s:Sg)(hs:zjT m.c s)(l:List Sg)(v:V)(hl:l.length<=10000000000)(a9:w.ownsRow B2 287 3 v l.length (l.flatMap sgV))(aL:∀x∈l,zjT m.c x):
  Calls prog 277 #[(O p),I 1,.agg #[I s.t,I s.se,I s.we],v] w (Rz w (.bool (yb m s l))):=by
 obtain⟨a2,a3,ai,aj⟩:=hs;obtain⟨al,cl,hv⟩:=zq a9;subst hv;obtain⟨ag,cg,aJ⟩:=zq h.grow;subst aJ;obtain⟨ap,cp,aM⟩:=zq h.prow;subst aM;obtain⟨aU,aV⟩:=hc.la;obtain⟨b3,b4⟩:=aw;obtain⟨b1,b2⟩:=hc.keeps a2 a3;obtain⟨aW,aX⟩:=hc.ends a2 a3 ai aj;have y0:=zo w (.cells #[I s.t,I s.se,I s.we] 287);have a1:B_ w (w.alloc (.cells #[I s.t,I s.se,I s.we] 287)):=(N _ _).alloc (Z _) _;have aO:=zE w (.cells #[I s.t,I s.se,I s.we] 287);have H:=ze h;have ao:=ze a9;clear h a9;go_in;go_wp2_with fail;generalize(w.alloc (.cells #[I s.t,I s.se,I s.we] 287))=W at*;have L:=ze (fun(u:S) (C:B_ W u)=>H.later (a1.trans (C.mono a1.size)));have aH:=ze (fun(u:S) (C:B_ W u)=>zY ao (a1.trans (C.mono a1.size)));have HF:Hid (∀(u:S),B_ W u->u.cell? (U p 9)=J (.slice ap m.pub.length cp)/\u.cell? (U p 10)=J (.slice ag m.gone.length cg)/\u.cell? (U p 7)=J (I m.now)/\u.cell? (U p 2)=J (I m.c.la)/\u.cell? (U w.1.size 0)=J (I s.t)/\u.cell? (U w.1.size 1)=J (I s.se)/\u.cell? (U w.1.size 2)=J (I s.we)/\p<u.1.size/\w.1.size<u.1.size):=fun u C=>by
  have hr:=ud L u C;obtain⟨q7,q8,q9,aR,b6,b7,b8⟩:=hr.rest;obtain⟨c0,c1,c2,c3,c4,c5,c6⟩:=hr.conf;have hb:=(C.block w.1.size (by omega)).trans y0;exact⟨q9,aR,q7,c2,by rw[xd hb];rfl,by rw[xd hb];rfl,by rw[xd hb];rfl,hr.lt,zd hb⟩
 have A:=ze a1;have aa:=ze (N W.1.size W);have HP:=ze (fun(u:S) (C:B_ W u)=>qq B m.pub _ s u (by omega) (ud L u C).prow);have HG:=ze (fun(u:S) (C:B_ W u)=>qq B m.gone _ s u (by omega) (ud L u C).grow);have HE:=ze (fun(u:S) (C:B_ W u)=>JO (ud L u C) hc s a2 a3 ai aj);have HK:=ze (fun(u:S) (C:B_ W u)=>zab (ud L u C) hc s.t a2 a3);clear y0 a1 aO;obtain⟨T,n,Q,P,s0,s1,s2,f,k⟩:=ud HF W (N _ _);have r:Nonempty (zm W.1.size W):=zm.some _ _;have q:=fun(u:zm W.1.size W) b o h=>u.cell b o h;go_wp2_with fail;refine zh W.1.size (by kernel_rfl) (by kernel_rfl) ?_;repeat(go_big_quiet_step (first|(go_at_call 218;exact Calls.later (Z _) (ud HP _ (aa.trans (Below.mono (Subtype.property _) aa.size))))))
 refine wpQuiet_nil ?_;rintro⟨w1,a⟩;dsimp only;clear q r;have a4:=ze (aa.trans (a.mono aa.size));clear a;clear T n Q P s0 s1 s2 f k;obtain⟨T,n,Q,P,s0,s1,s2,f,k⟩:=ud HF w1 a4;have r:Nonempty (zm w1.1.size w1):=zm.some _ _;have q:=fun(u:zm w1.1.size w1) b o h=>u.cell b o h;go_wp2_with fail;refine zh w1.1.size (by kernel_rfl) (by kernel_rfl) ?_;repeat(go_big_quiet_step (first|(go_at_call 218;exact Calls.later (Z _) (ud HG _ (a4.trans (Below.mono (Subtype.property _) a4.size))))))
 refine wpQuiet_nil ?_;rintro⟨w2,a⟩;dsimp only;clear q r;have ab:=ze (a4.trans (a.mono a4.size));clear a;clear T n Q P s0 s1 s2 f k;obtain⟨T,n,Q,P,s0,s1,s2,f,k⟩:=ud HF w2 ab;go_wp2_with fail;refine(ud HE w2 ab).mono ?_;rintro e z ⟨rfl,a⟩;have E:=ze (ab.trans (a.mono ab.size));clear a;clear T n Q P s0 s1 s2 f k;obtain⟨T,n,Q,P,s0,s1,s2,f,k⟩:=ud HF z E;have aS:=ze (show True from trivial);generalize av:m.c.end s=en at*;have an:=ze av;clear av;cases e0:(s.t== -1);case true=>
  have HR:=ze (show yb m s l=false by simp[yb,vs,e0]);try rw[e0]
  have r:Nonempty (zm z.1.size z):=zm.some _ _;have q:=fun(u:zm z.1.size z) b o h=>u.cell b o h;go_wp2_with fail;refine zh z.1.size (by kernel_rfl) (by kernel_rfl) ?_;repeat(go_big_quiet_step (fail))
  refine wpQuiet_nil ?_;rintro⟨w4,a⟩;dsimp only;clear q r;have K:=ze (E.trans (a.mono E.size));clear a;go_wp2_with fail;go_ret;exact⟨zQ HR.symm,A.trans (K.mono A.size)⟩
 cases e1:jX s m.pub;case true=>
  have HR:=ze (show yb m s l=false by simp[yb,vs,e1]);try rw[e1]
  have r:Nonempty (zm z.1.size z):=zm.some _ _;have q:=fun(u:zm z.1.size z) b o h=>u.cell b o h;go_wp2_with fail;refine zh z.1.size (by kernel_rfl) (by kernel_rfl) ?_;repeat(go_big_quiet_step (fail))
  refine wpQuiet_nil ?_;rintro⟨w4,a⟩;dsimp only;clear q r;have K:=ze (E.trans (a.mono E.size));clear a;go_wp2_with fail;go_ret;exact⟨zQ HR.symm,A.trans (K.mono A.size)⟩
 cases e2:jX s m.gone;case true=>
  have HR:=ze (show yb m s l=false by simp[yb,vs,e2]);try rw[e2]
  have r:Nonempty (zm z.1.size z):=zm.some _ _;have q:=fun(u:zm z.1.size z) b o h=>u.cell b o h;go_wp2_with fail;refine zh z.1.size (by kernel_rfl) (by kernel_rfl) ?_;repeat(go_big_quiet_step (fail))
  refine wpQuiet_nil ?_;rintro⟨w4,a⟩;dsimp only;clear q r;have K:=ze (E.trans (a.mono E.size));clear a;go_wp2_with fail;go_ret;exact⟨zQ HR.symm,A.trans (K.mono A.size)⟩
 by_cases e3:m.now-m.c.la<en;case pos=>
  have HR:=ze (show yb m s l=false by simp[yb,vs,ud an,e3]);try rw[e1]
  try rw[e2]
  have r:Nonempty (zm z.1.size z):=zm.some _ _;have q:=fun(u:zm z.1.size z) b o h=>u.cell b o h;go_wp2_with fail;refine zh z.1.size (by kernel_rfl) (by kernel_rfl) ?_;repeat(go_big_quiet_step (fail))
  refine wpQuiet_nil ?_;rintro⟨w4,a⟩;dsimp only;clear q r;have K:=ze (E.trans (a.mono E.size));clear a;go_wp2_with fail;go_ret;exact⟨zQ HR.symm,A.trans (K.mono A.size)⟩
 have aG:=ze (show vs m s=true by simp[vs,e0,e1,e2,ud an,e3]);try rw[e1]
 try rw[e2]
 have r:Nonempty (zm z.1.size z):=zm.some _ _;have q:=fun(u:zm z.1.size z) b o h=>u.cell b o h;go_wp2_with fail;refine zh z.1.size (by kernel_rfl) (by kernel_rfl) ?_;repeat(go_big_quiet_step (fail))
 refine wpQuiet_nil ?_;rintro⟨w4,a⟩;dsimp only;clear q r;have K:=ze (E.trans (a.mono E.size));clear a;clear T n Q P s0 s1 s2 f k;go_wp2_with fail;go_loopw [12,13,14,15,16,17] (fun y _ _ _ _ _ wr=>∃(i:Nat),i<=l.length/\y=I i/\(∀j x,j<i->l[j]?=J x->(!YC m s x)=true)/\B_ W wr) (fun y _ _ _ _ _ _=>l.length-(intOf y).toNat);case atStart=>exact⟨0,d _,rfl,fun j x hj=>absurd hj (Nat.not_lt_zero _),K⟩
 case round=>
  obtain⟨i,hi,rfl,ha,au⟩:=hrel;have HA:=ze ha;have a7:=ze au;clear ha au;obtain⟨T,n,Q,P,s0,s1,s2,f,k⟩:=ud HF wr a7;by_cases aK:i<l.length
  ·obtain⟨x,hx⟩:=xC aK;obtain⟨aA,aB,aP,aQ⟩:=aL x (List.mem_of_getElem? hx);obtain⟨g,aT,aN,_,aZ,x0,x1,x2⟩:=zdN (ud aH wr a7) hx;injection aN with ax ay az;subst ax;have b0:(i:Int)<l.length:=(by omega);have HX:=ze hx;clear hx ay az;go_wp2_with fail;have aI:=zE wr (.cells #[I x.t,I x.se,I x.we] 287);have ar:=zo wr (.cells #[I x.t,I x.se,I x.we] 287);have F:=ze (a7.alloc a7.size (.cells #[I x.t,I x.se,I x.we] 287));generalize(wr.alloc (.cells #[I x.t,I x.se,I x.we] 287))=X at*;have a8:Hid (∀(u:S),B_ X u->u.cell? (U wr.1.size 0)=J (I x.t)/\u.cell? (U wr.1.size 1)=J (I x.se)/\u.cell? (U wr.1.size 2)=J (I x.we)/\wr.1.size<u.1.size):=fun u C=>by
    have hb:=(C.block wr.1.size (by omega)).trans ar;exact⟨by rw[xd hb];rfl,by rw[xd hb];rfl,by rw[xd hb];rfl,zd hb⟩
   have aF:=ze (fun(u:S) (C:B_ W u)=>qq B m.pub _ x u (by omega) (ud L u C).prow);have aC:=ze (fun(u:S) (C:B_ W u)=>qq B m.gone _ x u (by omega) (ud L u C).grow);have aD:=ze (fun(u:S) (C:B_ W u)=>zeL (ud L u C) hc s x a2 a3 aA aB aP aQ);have aE:=ze (fun(u:S) (C:B_ W u)=>zeL (ud L u C) hc x s aA aB a2 a3 ai aj);have ah:=ze (N X.1.size X);clear aI ar x0 x1 x2;clear T n Q P s0 s1 s2 f k;obtain⟨T,n,Q,P,s0,s1,s2,f,k⟩:=ud HF X F;obtain⟨x0,x1,x2,a0⟩:=ud a8 X ah;have r:Nonempty (zm X.1.size X):=zm.some _ _;have q:=fun(u:zm X.1.size X) b o h=>u.cell b o h;go_wp2_with fail;refine zh X.1.size (by kernel_rfl) (by kernel_rfl) ?_;repeat(go_big_quiet_step (first|(go_at_call 218;exact Calls.later (Z _) (ud aF _ (F.trans (Below.mono (Subtype.property _) F.size))))))
   refine wpQuiet_nil ?_;rintro⟨w5,a⟩;dsimp only;clear q r;have ac:=ze (ah.trans (a.mono ah.size));clear a;have af:=ze (F.trans (ac.mono F.size));clear x0 x1 x2 a0;clear T n Q P s0 s1 s2 f k;obtain⟨T,n,Q,P,s0,s1,s2,f,k⟩:=ud HF w5 af;obtain⟨x0,x1,x2,a0⟩:=ud a8 w5 ac;have r:Nonempty (zm w5.1.size w5):=zm.some _ _;have q:=fun(u:zm w5.1.size w5) b o h=>u.cell b o h;go_wp2_with fail;refine zh w5.1.size (by kernel_rfl) (by kernel_rfl) ?_;repeat(go_big_quiet_step (first|(go_at_call 218;exact Calls.later (Z _) (ud aC _ (af.trans (Below.mono (Subtype.property _) af.size))))))
   refine wpQuiet_nil ?_;rintro⟨w6,a⟩;dsimp only;clear q r;have ad:=ze (ac.trans (a.mono ac.size));clear a;have ak:=ze (F.trans (ad.mono F.size));clear x0 x1 x2 a0;clear T n Q P s0 s1 s2 f k;obtain⟨T,n,Q,P,s0,s1,s2,f,k⟩:=ud HF w6 ak;obtain⟨x0,x1,x2,a0⟩:=ud a8 w6 ad;go_wp2_with fail;refine(ud aD w6 ak).mono ?_;rintro e w7 ⟨rfl,a⟩;have ae:=ze (ad.trans (a.mono ad.size));have am:=ze (F.trans (ae.mono F.size));clear a x0 x1 x2 a0;clear T n Q P s0 s1 s2 f k;obtain⟨T,n,Q,P,s0,s1,s2,f,k⟩:=ud HF w7 am;obtain⟨x0,x1,x2,a0⟩:=ud a8 w7 ae;go_wp2_with fail;refine(ud aE w7 am).mono ?_;rintro e w8 ⟨rfl,a⟩;have aq:=ze (ae.trans (a.mono ae.size));have a5:=ze (F.trans (aq.mono F.size));clear a x0 x1 x2 a0;clear T n Q P s0 s1 s2 f k;obtain⟨T,n,Q,P,s0,s1,s2,f,k⟩:=ud HF w8 a5;obtain⟨x0,x1,x2,a0⟩:=ud a8 w8 aq;cases o1:onB m.c s x;case false=>
    have a6:=ze (show(!YC m s x)=true by simp[YC,o1]);clear o1;go_wp2_with fail;go_roundw;case rel=>exact⟨i+1,by omega,by go_num,ZQ HA HX a6,a5⟩
    case measure=>simp[intOf];omega
   by_cases o2:0<=x.t;case neg=>
    have a6:=ze (show(!YC m s x)=true by simp[YC,o2]);clear o1;go_wp2_with fail;go_roundw;case rel=>exact⟨i+1,by omega,by go_num,ZQ HA HX a6,a5⟩
    case measure=>simp[intOf];omega
   cases o3:jX x m.pub;case true=>
    have a6:=ze (show(!YC m s x)=true by simp[YC,o3]);clear o1 o3;go_wp2_with fail;go_roundw;case rel=>exact⟨i+1,by omega,by go_num,ZQ HA HX a6,a5⟩
    case measure=>simp[intOf];omega
   have HR:=ze (show yb m s l=false by unfold yb;rw[zhy (ud HX) (by simp[YC,o1,o2,o3])];simp);clear o1 o3;go_wp2_with fail;go_ret;exact⟨zQ HR.symm,A.trans (a5.mono A.size)⟩
  ·have HR:=ze (show yb m s l=true by unfold yb;rw[ud aG,VM (fun j x hj hx=>ud HA j x (by omega) hx)];rfl);go_wp2_with fail;go_ret;exact⟨zQ HR.symm,A.trans (a7.mono A.size)⟩
theorem zgH(h:zR B w p m tv nv pv gv kv)(hc:m.c.ok)(b2:m.gone.length<=1000000000000)(b9:m.pub.length<=1000000000000)(aw:0<=m.now/\m.now<=100000)(s:Sg)(hs:zjT m.c s)(l:List Sg)(v:V)(hl:l.length<=10000000000)(a9:w.ownsRow B2 287 3 v l.length (l.flatMap sgV))(aN:∀x∈l,zjT m.c x):
  Calls prog 277 #[(O p),I 2,.agg #[I s.t,I s.se,I s.we],v] w (Rz w (.bool (yt m s l))):=by
 obtain⟨a2,a3,ai,aj⟩:=hs;obtain⟨al,cl,hv⟩:=zq a9;subst hv;obtain⟨ag,cg,aL⟩:=zq h.grow;subst aL;obtain⟨ap,cp,aO⟩:=zq h.prow;subst aO;obtain⟨aW,aX⟩:=hc.la;obtain⟨b7,b8⟩:=aw;obtain⟨b5,b6⟩:=hc.keeps a2 a3;obtain⟨b0,b1⟩:=hc.ends a2 a3 ai aj;have y0:=zo w (.cells #[I s.t,I s.se,I s.we] 287);have a1:B_ w (w.alloc (.cells #[I s.t,I s.se,I s.we] 287)):=(N _ _).alloc (Z _) _;have aQ:=zE w (.cells #[I s.t,I s.se,I s.we] 287);have H:=ze h;have ao:=ze a9;clear h a9;go_in;go_wp2_with fail;generalize(w.alloc (.cells #[I s.t,I s.se,I s.we] 287))=W at*;have L:=ze (fun(u:S) (E:B_ W u)=>H.later (a1.trans (E.mono a1.size)));have aH:=ze (fun(u:S) (E:B_ W u)=>zY ao (a1.trans (E.mono a1.size)));have HF:Hid (∀(u:S),B_ W u->u.cell? (U p 9)=J (.slice ap m.pub.length cp)/\u.cell? (U p 10)=J (.slice ag m.gone.length cg)/\u.cell? (U p 7)=J (I m.now)/\u.cell? (U p 2)=J (I m.c.la)/\u.cell? (U w.1.size 0)=J (I s.t)/\u.cell? (U w.1.size 1)=J (I s.se)/\u.cell? (U w.1.size 2)=J (I s.we)/\p<u.1.size/\w.1.size<u.1.size):=fun u E=>by
  have hr:=ud L u E;obtain⟨q7,q8,q9,aT,ba,bb,bc⟩:=hr.rest;obtain⟨c0,c1,c2,c3,c4,c5,c6⟩:=hr.conf;have hb:=(E.block w.1.size (by omega)).trans y0;exact⟨q9,aT,q7,c2,by rw[xd hb];rfl,by rw[xd hb];rfl,by rw[xd hb];rfl,hr.lt,zd hb⟩
 have C:=ze a1;have aa:=ze (N W.1.size W);have HP:=ze (fun(u:S) (E:B_ W u)=>qq B m.pub _ s u (by omega) (ud L u E).prow);have HG:=ze (fun(u:S) (E:B_ W u)=>qq B m.gone _ s u (by omega) (ud L u E).grow);have HE:=ze (fun(u:S) (E:B_ W u)=>JO (ud L u E) hc s a2 a3 ai aj);have HK:=ze (fun(u:S) (E:B_ W u)=>zab (ud L u E) hc s.t a2 a3);clear y0 a1 aQ;obtain⟨T,q,Q,P,s0,s1,s2,k,n⟩:=ud HF W (N _ _);have z:Nonempty (zm W.1.size W):=zm.some _ _;have r:=fun(u:zm W.1.size W) b o h=>u.cell b o h;go_wp2_with fail;refine zh W.1.size (by kernel_rfl) (by kernel_rfl) ?_;repeat(go_big_quiet_step (first|(go_at_call 218;exact Calls.later (Z _) (ud HP _ (aa.trans (Below.mono (Subtype.property _) aa.size))))))
 refine wpQuiet_nil ?_;rintro⟨w1,a⟩;dsimp only;clear r z;have a4:=ze (aa.trans (a.mono aa.size));clear a;clear T q Q P s0 s1 s2 k n;obtain⟨T,q,Q,P,s0,s1,s2,k,n⟩:=ud HF w1 a4;have z:Nonempty (zm w1.1.size w1):=zm.some _ _;have r:=fun(u:zm w1.1.size w1) b o h=>u.cell b o h;go_wp2_with fail;refine zh w1.1.size (by kernel_rfl) (by kernel_rfl) ?_;repeat(go_big_quiet_step (first|(go_at_call 218;exact Calls.later (Z _) (ud HG _ (a4.trans (Below.mono (Subtype.property _) a4.size))))))
 refine wpQuiet_nil ?_;rintro⟨w2,a⟩;dsimp only;clear r z;have ab:=ze (a4.trans (a.mono a4.size));clear a;clear T q Q P s0 s1 s2 k n;obtain⟨T,q,Q,P,s0,s1,s2,k,n⟩:=ud HF w2 ab;go_wp2_with fail;refine(ud HE w2 ab).mono ?_;rintro e A ⟨rfl,a⟩;have f:=ze (ab.trans (a.mono ab.size));clear a;clear T q Q P s0 s1 s2 k n;obtain⟨T,q,Q,P,s0,s1,s2,k,n⟩:=ud HF A f;have aU:=ze (show True from trivial);generalize av:m.c.end s=en at*;have an:=ze av;clear av;cases e0:jX s m.gone;case true=>
  have HR:=ze (show yt m s l=false by simp[yt,yj,e0]);try rw[e0]
  have z:Nonempty (zm A.1.size A):=zm.some _ _;have r:=fun(u:zm A.1.size A) b o h=>u.cell b o h;go_wp2_with fail;refine zh A.1.size (by kernel_rfl) (by kernel_rfl) ?_;repeat(go_big_quiet_step (first|(go_at_call 300;exact Calls.later_same (ud HK _ (f.trans (Below.mono (Subtype.property _) f.size))))))
  refine wpQuiet_nil ?_;rintro⟨w4,a⟩;dsimp only;clear r z;have K:=ze (f.trans (a.mono f.size));clear a;go_wp2_with fail;go_ret;exact⟨zQ HR.symm,C.trans (K.mono C.size)⟩
 cases e1:(decide (0<=s.t)&&!jX s m.pub);case true=>
  have HR:=ze (show yt m s l=false by simp[yt,yj,e1]);rw[Bool.and_eq_true,decide_eq_true_eq,Bool.not_eq_true']at e1;obtain⟨aZ,aI⟩:=e1;try rw[e0]
  try rw[aI]
  have z:Nonempty (zm A.1.size A):=zm.some _ _;have r:=fun(u:zm A.1.size A) b o h=>u.cell b o h;go_wp2_with fail;refine zh A.1.size (by kernel_rfl) (by kernel_rfl) ?_;repeat(go_big_quiet_step (first|(go_at_call 300;exact Calls.later_same (ud HK _ (f.trans (Below.mono (Subtype.property _) f.size))))))
  refine wpQuiet_nil ?_;rintro⟨w4,a⟩;dsimp only;clear r z;have K:=ze (f.trans (a.mono f.size));clear a;go_wp2_with fail;go_ret;exact⟨zQ HR.symm,C.trans (K.mono C.size)⟩
 rw[Bool.and_eq_false_iff,decide_eq_false_iff_not,Bool.not_eq_false']at e1;by_cases e3:m.now<en+m.c.keep s.t;case pos=>
  have HR:=ze (show yt m s l=false by simp[yt,yj,ud an,e3]);try rw[e0]
  by_cases e4:0<=s.t;case pos=>
   rw[e1.resolve_left (fun h=>h e4)];have z:Nonempty (zm A.1.size A):=zm.some _ _;have r:=fun(u:zm A.1.size A) b o h=>u.cell b o h;go_wp2_with fail;refine zh A.1.size (by kernel_rfl) (by kernel_rfl) ?_;repeat(go_big_quiet_step (first|(go_at_call 300;exact Calls.later_same (ud HK _ (f.trans (Below.mono (Subtype.property _) f.size))))))
   refine wpQuiet_nil ?_;rintro⟨w4,a⟩;dsimp only;clear r z;have K:=ze (f.trans (a.mono f.size));clear a;go_wp2_with fail;go_ret;exact⟨zQ HR.symm,C.trans (K.mono C.size)⟩
  case neg=>
   have aJ:decide (0<=s.t)=false:=(by simpa using e4);have z:Nonempty (zm A.1.size A):=zm.some _ _;have r:=fun(u:zm A.1.size A) b o h=>u.cell b o h;go_wp2_with fail;refine zh A.1.size (by kernel_rfl) (by kernel_rfl) ?_;repeat(go_big_quiet_step (first|(go_at_call 300;exact Calls.later_same (ud HK _ (f.trans (Below.mono (Subtype.property _) f.size))))))
   refine wpQuiet_nil ?_;rintro⟨w4,a⟩;dsimp only;clear r z;have K:=ze (f.trans (a.mono f.size));clear a;go_wp2_with fail;go_ret;exact⟨zQ HR.symm,C.trans (K.mono C.size)⟩
 have aG:=ze (show yj m s=true by rcases e1 with e1|e1<;>simp[yj,e0,e1,ud an,e3]);try rw[e0]
 have aY:Hid (∀(b:Bool),True):=fun _=>trivial;by_cases e4:0<=s.t;case' pos=>
  rw[e1.resolve_left (fun h=>h e4)]
 case' neg=>
  have aJ:decide (0<=s.t)=false:=by simpa using e4
 all_goals
  have z:Nonempty (zm A.1.size A):=zm.some _ _
  have r:=fun(u:zm A.1.size A) b o h=>u.cell b o h
  go_wp2_with fail
  refine zh A.1.size (by kernel_rfl) (by kernel_rfl) ?_
  repeat(go_big_quiet_step (first|(go_at_call 300;exact Calls.later_same (ud HK _ (f.trans (Below.mono (Subtype.property _) f.size))))))
  refine wpQuiet_nil ?_
  rintro⟨w4,a⟩
  dsimp only
  clear r z
  have K:=ze (f.trans (a.mono f.size))
  clear a
  clear T q Q P s0 s1 s2 k n
  go_wp2_with fail
  go_loopw [12,13,14,15,16,17] (fun y _ _ _ _ _ wr=>∃(i:Nat),i<=l.length/\y=I i/\(∀j x,j<i->l[j]?=J x->(!QD m s x)=true)/\B_ W wr) (fun y _ _ _ _ _ _=>l.length-(intOf y).toNat)
  case atStart=>exact⟨0,d _,rfl,fun j x hj=>absurd hj (Nat.not_lt_zero _),K⟩
  case round=>
   obtain⟨i,hi,rfl,ha,au⟩:=hrel;have HA:=ze ha;have a7:=ze au;clear ha au;obtain⟨T,q,Q,P,s0,s1,s2,k,n⟩:=ud HF wr a7;by_cases aM:i<l.length
   ·obtain⟨x,hx⟩:=xC aM;obtain⟨aA,aB,aR,aS⟩:=aN x (List.mem_of_getElem? hx);obtain⟨g,aV,aP,_,b3,x0,x1,x2⟩:=zdN (ud aH wr a7) hx;injection aP with ax ay az;subst ax;have b4:(i:Int)<l.length:=(by omega);have HX:=ze hx;clear hx ay az;go_wp2_with fail;have aK:=zE wr (.cells #[I x.t,I x.se,I x.we] 287);have ar:=zo wr (.cells #[I x.t,I x.se,I x.we] 287);have F:=ze (a7.alloc a7.size (.cells #[I x.t,I x.se,I x.we] 287));generalize(wr.alloc (.cells #[I x.t,I x.se,I x.we] 287))=X at*;have a8:Hid (∀(u:S),B_ X u->u.cell? (U wr.1.size 0)=J (I x.t)/\u.cell? (U wr.1.size 1)=J (I x.se)/\u.cell? (U wr.1.size 2)=J (I x.we)/\wr.1.size<u.1.size):=fun u E=>by
     have hb:=(E.block wr.1.size (by omega)).trans ar;exact⟨by rw[xd hb];rfl,by rw[xd hb];rfl,by rw[xd hb];rfl,zd hb⟩
    have aF:=ze (fun(u:S) (E:B_ W u)=>qq B m.pub _ x u (by omega) (ud L u E).prow);have aC:=ze (fun(u:S) (E:B_ W u)=>qq B m.gone _ x u (by omega) (ud L u E).grow);have aD:=ze (fun(u:S) (E:B_ W u)=>zeL (ud L u E) hc s x a2 a3 aA aB aR aS);have aE:=ze (fun(u:S) (E:B_ W u)=>zeL (ud L u E) hc x s aA aB a2 a3 ai aj);have ah:=ze (N X.1.size X);clear aK ar x0 x1 x2;clear T q Q P s0 s1 s2 k n;obtain⟨T,q,Q,P,s0,s1,s2,k,n⟩:=ud HF X F;obtain⟨x0,x1,x2,a0⟩:=ud a8 X ah;have z:Nonempty (zm X.1.size X):=zm.some _ _;have r:=fun(u:zm X.1.size X) b o h=>u.cell b o h;go_wp2_with fail;refine zh X.1.size (by kernel_rfl) (by kernel_rfl) ?_;repeat(go_big_quiet_step (first|(go_at_call 218;exact Calls.later (Z _) (ud aF _ (F.trans (Below.mono (Subtype.property _) F.size))))))
    refine wpQuiet_nil ?_;rintro⟨w5,a⟩;dsimp only;clear r z;have ac:=ze (ah.trans (a.mono ah.size));clear a;have af:=ze (F.trans (ac.mono F.size));clear x0 x1 x2 a0;clear T q Q P s0 s1 s2 k n;obtain⟨T,q,Q,P,s0,s1,s2,k,n⟩:=ud HF w5 af;obtain⟨x0,x1,x2,a0⟩:=ud a8 w5 ac;have z:Nonempty (zm w5.1.size w5):=zm.some _ _;have r:=fun(u:zm w5.1.size w5) b o h=>u.cell b o h;go_wp2_with fail;refine zh w5.1.size (by kernel_rfl) (by kernel_rfl) ?_;repeat(go_big_quiet_step (first|(go_at_call 218;exact Calls.later (Z _) (ud aC _ (af.trans (Below.mono (Subtype.property _) af.size))))))
    refine wpQuiet_nil ?_;rintro⟨w6,a⟩;dsimp only;clear r z;have ad:=ze (ac.trans (a.mono ac.size));clear a;have ak:=ze (F.trans (ad.mono F.size));clear x0 x1 x2 a0;clear T q Q P s0 s1 s2 k n;obtain⟨T,q,Q,P,s0,s1,s2,k,n⟩:=ud HF w6 ak;obtain⟨x0,x1,x2,a0⟩:=ud a8 w6 ad;go_wp2_with fail;refine(ud aD w6 ak).mono ?_;rintro e w7 ⟨rfl,a⟩;have ae:=ze (ad.trans (a.mono ad.size));have am:=ze (F.trans (ae.mono F.size));clear a x0 x1 x2 a0;clear T q Q P s0 s1 s2 k n;obtain⟨T,q,Q,P,s0,s1,s2,k,n⟩:=ud HF w7 am;obtain⟨x0,x1,x2,a0⟩:=ud a8 w7 ae;go_wp2_with fail;refine(ud aE w7 am).mono ?_;rintro e w8 ⟨rfl,a⟩;have aq:=ze (ae.trans (a.mono ae.size));have a5:=ze (F.trans (aq.mono F.size));clear a x0 x1 x2 a0;clear T q Q P s0 s1 s2 k n;obtain⟨T,q,Q,P,s0,s1,s2,k,n⟩:=ud HF w8 a5;obtain⟨x0,x1,x2,a0⟩:=ud a8 w8 aq;cases o1:onB m.c x s;case false=>
     have a6:=ze (show(!QD m s x)=true by simp[QD,o1]);clear o1;go_wp2_with fail;go_roundw;case rel=>exact⟨i+1,by omega,by go_num,ZQ HA HX a6,a5⟩
     case measure=>simp[intOf];omega
    cases o2:jX x m.pub;case true=>
     have a6:=ze (show(!QD m s x)=true by simp[QD,o2]);clear o1 o2;go_wp2_with fail;go_roundw;case rel=>exact⟨i+1,by omega,by go_num,ZQ HA HX a6,a5⟩
     case measure=>simp[intOf];omega
    cases o3:jX x m.gone;case true=>
     have a6:=ze (show(!QD m s x)=true by simp[QD,o3]);clear o1 o2 o3;go_wp2_with fail;go_roundw;case rel=>exact⟨i+1,by omega,by go_num,ZQ HA HX a6,a5⟩
     case measure=>simp[intOf];omega
    have HR:=ze (show yt m s l=false by unfold yt;rw[zhy (ud HX) (by simp[QD,o1,o2,o3])];simp);clear o1 o2 o3;go_wp2_with fail;go_ret;exact⟨zQ HR.symm,C.trans (a5.mono C.size)⟩
   ·have HR:=ze (show yt m s l=true by unfold yt;rw[ud aG,VM (fun j x hj hx=>ud HA j x (by omega) hx)];rfl);go_wp2_with fail;go_ret;exact⟨zQ HR.symm,C.trans (a7.mono C.size)⟩
def zdr(m:RM)(kind:Int)(s:Sg):Tk:=⟨kind,s,m.now,0,0,0,0,-1,0⟩
def qE(kind:Int)(s:Sg)(t x:Tk):Tk:=if x.kind=kind/\x.s=s then x else t
def yc(m:RM)(kind:Int)(s:Sg):Tk:=m.tg.foldl (qE kind s) (zdr m kind s)
def kS(m:RM)(kind:Int)(s:Sg)(l:List Sg):Bool:=if kind=1 then yb m s l else yt m s l
def yX(m:RM)(l:List Sg)(kind:Int)(out:List Tk)(s:Sg):List Tk:=if kS m kind s l then ki qw (yc m kind s) out else out
def qt(m:RM)(l:List Sg)(i:Nat):List Tk:=(l.take i).foldl (fun out s=>yX m l 2 (yX m l 1 out s) s) []
def Xh(m:RM)(l:List Sg)(A:List Tk)(s:Sg):Nat->List Tk
 |0=>A
 |q+1=>yX m l ((q:Int)+1) (Xh m l A s q) s
def RM.settled(m:RM):RM:={m with tg:=qt m (zV m.c m.nu) (zV m.c m.nu).length}
theorem Vd(m:RM)(l:List Sg)(i:Nat)(s:Sg)(h:l[i]?=J s):qt m l (i+1)=Xh m l (qt m l i) s 2:=by
 obtain⟨a,b⟩:=List.getElem?_eq_some_iff.1 h;unfold qt;rw[List.take_succ_eq_append_getElem a,b,List.foldl_append];rfl
theorem zbu{α:Type}(lt:α->α->Bool)(x:α):∀l:List α,(ki lt x l).length=l.length+1
 |[]=>rfl
 |y::r=>by rw[ki];split<;>simp[zbu lt x r]
theorem zjZ(m:RM)(l:List Sg)(kind:Int)(out:List Tk)(s:Sg):(yX m l kind out s).length<=out.length+1:=by
 unfold yX;split
 ·rw[zbu];omega
 ·omega
theorem zdq(m:RM)(l:List Sg)(A:List Tk)(s:Sg):∀q,(Xh m l A s q).length<=A.length+q
 |0=>Z _
 |q+1=>by have:=zjZ m l ((q:Int)+1) (Xh m l A s q) s;have a:=zdq m l A s q;rw[Xh];omega
theorem Jw(m:RM)(l:List Sg):∀i,i<=l.length->(qt m l i).length<=2*i
 |0,_=>by simp[qt]
 |i+1,h=>by
  obtain⟨s,a⟩:=xC (show i<l.length by omega);have:=Jw m l i (by omega);have b:=zdq m l (qt m l i) s 2;rw[Vd m l i s a];omega
theorem zjj(m:RM)(kind:Int)(s:Sg)(k:Nat)(x:Tk)(h:m.tg[k]?=J x):(m.tg.take (k+1)).foldl (qE kind s) (zdr m kind s)=qE kind s ((m.tg.take k).foldl (qE kind s) (zdr m kind s)) x:=by
 rw[zkt h,List.foldl_append];rfl
theorem zlT{t:Tk}(h:x.kind=kind)(a:x.s=s):qE kind s t x=x:=by simp[qE,h,a]
theorem zlR{t:Tk}(h:¬x.kind=kind):qE kind s t x=t:=by simp[qE,h]
theorem zlS{t:Tk}(h:¬x.s=s):qE kind s t x=t:=by simp[qE,h]
theorem zoq{nu:List Nm}(i:c.ok)(b:∀x∈nu,x.ok):∀s∈zV c nu,zjT c s:=fun s k=>by
 obtain⟨f,g,x,l,j⟩:=kD.1 k;obtain⟨m,n,h,o,p,q⟩:=b x l;obtain⟨w1,w2⟩:=i.wh f g;have e:s.we=x.tm/c.wh s.t:=by rw[j];rfl
 refine⟨f,g,?_,?_⟩
 ·rw[e];exact Int.ediv_nonneg h (by omega)
 ·rw[e];have:=Int.ediv_le_self (a:=x.tm) (c.wh s.t) h;omega
theorem zR.setTasks{ts:List Tk}(h:zR B w p m tv nv pv gv kv)(b:w.ownsRow B 294 11 z ts.length (ts.flatMap tkV)):zR B (w.setCell (U p 11) z) p {m with tg:=ts} tv nv pv gv z:=by
 have a:zj (fun k=>k=p) w (w.setCell (U p 11) z):=zk (zj.refl _ _) rfl;exact⟨xq (i:=11) h.head z,h.base,zi h.trow a (zv h.head h.trow (by decide)),zi h.nrow a (zv h.head h.nrow (by decide)),zi h.prow a (zv h.head h.prow (by decide)),zi h.grow a (zv h.head h.grow (by decide)),zi b a (zv h.head b (by decide))⟩
theorem zqs(h:w.1[g]?=J (yx a))(x:Tk):(((((((((((w.setCell (U g 0) (I x.kind)).setCell (U g 1) (I x.s.t)).setCell (U g 2) (I x.s.se)).setCell (U g 3) (I x.s.we)).setCell (U g 4) (I x.si)).setCell (U g 5) (I x.tc)).setCell (U g 6) (I x.rest)).setCell (U g 7) (I x.ep)).setCell (U g 8) (I x.num)).setCell (U g 9) (I x.slot)).setCell (U g 10) (I x.till)).1[g]?=J (yx x):=by
 have c:(w.setCell (U g 0) (I x.kind)).1[g]?=J (.cells #[I x.kind,I a.s.t,I a.s.se,I a.s.we,I a.si,I a.tc,I a.rest,I a.ep,I a.num,I a.slot,I a.till] 294 (0,0)):=xq (i:=0) h (I x.kind);have e:((w.setCell (U g 0) (I x.kind)).setCell (U g 1) (I x.s.t)).1[g]?=J (.cells #[I x.kind,I x.s.t,I a.s.se,I a.s.we,I a.si,I a.tc,I a.rest,I a.ep,I a.num,I a.slot,I a.till] 294 (0,0)):=xq (i:=1) c (I x.s.t);have f:(((w.setCell (U g 0) (I x.kind)).setCell (U g 1) (I x.s.t)).setCell (U g 2) (I x.s.se)).1[g]?=J (.cells #[I x.kind,I x.s.t,I x.s.se,I a.s.we,I a.si,I a.tc,I a.rest,I a.ep,I a.num,I a.slot,I a.till] 294 (0,0)):=xq (i:=2) e (I x.s.se);have j:((((w.setCell (U g 0) (I x.kind)).setCell (U g 1) (I x.s.t)).setCell (U g 2) (I x.s.se)).setCell (U g 3) (I x.s.we)).1[g]?=J (.cells #[I x.kind,I x.s.t,I x.s.se,I x.s.we,I a.si,I a.tc,I a.rest,I a.ep,I a.num,I a.slot,I a.till] 294 (0,0)):=xq (i:=3) f (I x.s.we);have k:(((((w.setCell (U g 0) (I x.kind)).setCell (U g 1) (I x.s.t)).setCell (U g 2) (I x.s.se)).setCell (U g 3) (I x.s.we)).setCell (U g 4) (I x.si)).1[g]?=J (.cells #[I x.kind,I x.s.t,I x.s.se,I x.s.we,I x.si,I a.tc,I a.rest,I a.ep,I a.num,I a.slot,I a.till] 294 (0,0)):=xq (i:=4) j (I x.si);have l:((((((w.setCell (U g 0) (I x.kind)).setCell (U g 1) (I x.s.t)).setCell (U g 2) (I x.s.se)).setCell (U g 3) (I x.s.we)).setCell (U g 4) (I x.si)).setCell (U g 5) (I x.tc)).1[g]?=J (.cells #[I x.kind,I x.s.t,I x.s.se,I x.s.we,I x.si,I x.tc,I a.rest,I a.ep,I a.num,I a.slot,I a.till] 294 (0,0)):=xq (i:=5) k (I x.tc);have m:(((((((w.setCell (U g 0) (I x.kind)).setCell (U g 1) (I x.s.t)).setCell (U g 2) (I x.s.se)).setCell (U g 3) (I x.s.we)).setCell (U g 4) (I x.si)).setCell (U g 5) (I x.tc)).setCell (U g 6) (I x.rest)).1[g]?=J (.cells #[I x.kind,I x.s.t,I x.s.se,I x.s.we,I x.si,I x.tc,I x.rest,I a.ep,I a.num,I a.slot,I a.till] 294 (0,0)):=xq (i:=6) l (I x.rest);have n:((((((((w.setCell (U g 0) (I x.kind)).setCell (U g 1) (I x.s.t)).setCell (U g 2) (I x.s.se)).setCell (U g 3) (I x.s.we)).setCell (U g 4) (I x.si)).setCell (U g 5) (I x.tc)).setCell (U g 6) (I x.rest)).setCell (U g 7) (I x.ep)).1[g]?=J (.cells #[I x.kind,I x.s.t,I x.s.se,I x.s.we,I x.si,I x.tc,I x.rest,I x.ep,I a.num,I a.slot,I a.till] 294 (0,0)):=xq (i:=7) m (I x.ep);have o:(((((((((w.setCell (U g 0) (I x.kind)).setCell (U g 1) (I x.s.t)).setCell (U g 2) (I x.s.se)).setCell (U g 3) (I x.s.we)).setCell (U g 4) (I x.si)).setCell (U g 5) (I x.tc)).setCell (U g 6) (I x.rest)).setCell (U g 7) (I x.ep)).setCell (U g 8) (I x.num)).1[g]?=J (.cells #[I x.kind,I x.s.t,I x.s.se,I x.s.we,I x.si,I x.tc,I x.rest,I x.ep,I x.num,I a.slot,I a.till] 294 (0,0)):=xq (i:=8) n (I x.num);have p:((((((((((w.setCell (U g 0) (I x.kind)).setCell (U g 1) (I x.s.t)).setCell (U g 2) (I x.s.se)).setCell (U g 3) (I x.s.we)).setCell (U g 4) (I x.si)).setCell (U g 5) (I x.tc)).setCell (U g 6) (I x.rest)).setCell (U g 7) (I x.ep)).setCell (U g 8) (I x.num)).setCell (U g 9) (I x.slot)).1[g]?=J (.cells #[I x.kind,I x.s.t,I x.s.se,I x.s.we,I x.si,I x.tc,I x.rest,I x.ep,I x.num,I x.slot,I a.till] 294 (0,0)):=xq (i:=9) o (I x.slot);have b:(((((((((((w.setCell (U g 0) (I x.kind)).setCell (U g 1) (I x.s.t)).setCell (U g 2) (I x.s.se)).setCell (U g 3) (I x.s.we)).setCell (U g 4) (I x.si)).setCell (U g 5) (I x.tc)).setCell (U g 6) (I x.rest)).setCell (U g 7) (I x.ep)).setCell (U g 8) (I x.num)).setCell (U g 9) (I x.slot)).setCell (U g 10) (I x.till)).1[g]?=J (.cells (yZz x) 294 (0,0)):=xq (i:=10) p (I x.till);exact b
theorem ZW(h:zR B w p m tv nv pv gv kv)(hB:B<=w.1.size)(hc:m.c.ok)(aE:m.nu.length<=1000000000)(aC:m.gone.length<=1000000000000)(aG:m.pub.length<=1000000000000)(bi:m.tg.length<=1000000000000)(aF:∀x∈m.nu,x.ok)(ac:0<=m.now/\m.now<=100000):
  Calls prog 248 #[(O p)] w fun e w'=>e=.returned (.tuple #[])/\∃aL,zR B w' p m.settled tv nv pv gv aL/\zj (fun k=>k=p) w w'/\∀k,aL.ownBlock=J k->w.1.size<=k:=by
 have H:=ze h;have HS:=ze (jr h hc aE aF);have bp:=jK (nu:=m.nu) hc.n4 aE;have HM:=ze (zoq hc aF);obtain⟨ak,ck,aY⟩:=zq h.krow;subst aY;have hp:=h.lt;have ax:Hid (m.settled={m with tg:=qt m (zV m.c m.nu) (zV m.c m.nu).length}):=rfl;clear h;generalize hL:zV m.c m.nu=L at*;clear hL;go_in;go_wp2_with fail;refine HS.mono ?_;rintro e w0 ⟨v,rfl,an,ag⟩;obtain⟨al,cl,b2⟩:=zq an;subst b2;have aQ:=ze an;have aw:=ze ag;have ap:=ag.size;clear an ag;have r:=ze (fun(u:S) (hu:B_ w0 u)=>H.later (aw.trans (hu.mono ap)));have a7:=ze (fun(u:S) (hu:B_ w0 u)=>zY aQ hu);go_wp2_with fail;go_loopw [3,4,5,6,7,8] (fun z y _ _ _ _ wr=>∃(i:Nat),i<=L.length/\y=I i/\wr.ownsRow w0.1.size 294 11 z (qt m L i).length ((qt m L i).flatMap tkV)/\B_ w0 wr) (fun _ y _ _ _ _ _=>L.length-(intOf y).toNat);case atStart=>exact⟨0,d _,rfl,World.ownsRow_nil _ _ _ _,N _ _⟩
 case round=>
  obtain⟨i,hi,rfl,hz,a0⟩:=hrel;obtain⟨az,cz,aq⟩:=zq hz;subst aq;have C:=ze hz;have l:=ze a0;have ba:=Jw m L i hi;clear hz a0;by_cases aW:i<L.length
  ·obtain⟨s,hs⟩:=xC aW;have aH:=ud HM s (List.mem_of_getElem? hs);have bh:(i:Int)<L.length:=(by omega);have aP:=ze (Vd m L i s hs);have ay:=ze hs;clear hs;generalize qt m L i=A at*;go_wp2_with fail;go_loopw [3,5,6,7,8] (fun z y _ _ _ wr=>∃(q:Nat),q<=2/\y=I ((q:Int)+1)/\wr.ownsRow w0.1.size 294 11 z (Xh m L A s q).length ((Xh m L A s q).flatMap tkV)/\B_ w0 wr) (fun _ y _ _ _ _=>3-(intOf y).toNat);case atStart=>exact⟨0,by omega,rfl,C,l⟩
   case round=>
    clear C l;obtain⟨q,hq,rfl,hz,a0⟩:=hrel;obtain⟨bb,bd,aq⟩:=zq hz;subst aq;have C:=ze hz;have l:=ze a0;clear hz a0;have bk:=zdq m L A s q;by_cases bn:q<2
    ·have bo:(q:Int)+1<=2:=(by omega);have a6:Hid (Calls prog 277 #[(O p),I ((q:Int)+1),.agg #[I s.t,I s.se,I s.we],.slice al L.length cl] wr (Rz wr (.bool (kS m ((q:Int)+1) s L)))):=by
      have h1:=zgF (ud r wr l) hc aC aG ac s aH L _ (by omega) (ud a7 wr l) HM;have h2:=zgH (ud r wr l) hc aC aG ac s aH L _ (by omega) (ud a7 wr l) HM;rcases(show q=0\/q=1 by omega)with rfl|rfl
      ·exact h1
      ·exact h2
     obtain⟨g,b7,ao,_,a9,x0,x1,x2⟩:=zdN (ud a7 wr l) ay;injection ao with a1 a2 a3;subst a1;clear a2 a3;have ab:Hid (Xh m L A s (q+1)=yX m L ((q:Int)+1) (Xh m L A s q) s):=rfl;generalize Xh m L A s q=P at*;cases F:kS m ((q:Int)+1) s L
     ·rw[F]at a6;have ae:=ze (show yX m L ((q:Int)+1) P s=P by simp[yX,F]);clear F;go_wp2_with fail;refine a6.mono ?_;rintro e w1 ⟨rfl,n⟩;go_wp2_with fail;go_roundw;case rel=>exact⟨q+1,by omega,by go_num,by rw[ud ab,ud ae];exact zY C n,l.trans (n.mono l.size)⟩
      case measure=>simp[intOf];omega
     ·rw[F]at a6;have ae:=ze (show yX m L ((q:Int)+1) P s=ki qw (yc m ((q:Int)+1) s) P by simp[yX,F]);clear F;go_wp2_with fail;refine a6.mono ?_;rintro e w1 ⟨rfl,n⟩;have a5:=ze (l.trans (n.mono l.size));have z0:=(n.cell (p:=(U g (i*3))) a9).trans x0;have z1:=(n.cell (p:=(U g (i*3+1))) a9).trans x1;have z2:=(n.cell (p:=(U g (i*3+2))) a9).trans x2;obtain⟨r7,r8,r9,ar,aa,au,av⟩:=(ud r w1 a5).rest;have bl:=(ud r w1 a5).lt;have bf:g<w1.1.size:=M a9 n.size;have aS:=ze (zY C n);clear r8 r9 ar aa au av x0 x1 x2 n;go_wp2_with fail;go_region
      go_wp2_with fail;go_loopw [8] (fun y wq=>∃(k:Nat),k<=m.tg.length/\y=I k/\wq.1[w1.1.size]?=J (yx ((m.tg.take k).foldl (qE ((q:Int)+1) s) (zdr m ((q:Int)+1) s)))/\B_ w1 wq) (fun y _=>m.tg.length-(intOf y).toNat);case atStart=>exact⟨0,d _,rfl,zo w1 _,((N _ _).alloc (Z _) _).drew⟩
      case round=>
       clear z0 z1 z2 r7;obtain⟨k,hk,rfl,hT,ah⟩:=hrel;have af:w1.1.size<wr.1.size:=zd hT;have HQ:=ze (a5.trans (ah.mono a5.size));have E:=ze ah;obtain⟨r7,r8,r9,ar,aa,au,av⟩:=(ud r wr HQ).rest;have aZ:=(ud r wr HQ).lt;obtain⟨g',b8,ao,_,bg,x0,x1,x2⟩:=zdN (ud a7 wr HQ) ay;injection ao with a1 a2 a3;cases a1;clear r7 r8 r9 ar au av ah a2 a3;by_cases aD:k<m.tg.length
       ·obtain⟨x,hx⟩:=xC aD;obtain⟨X,b9,b3,_,f,y0,y1,y2,y3,y4,y5,y6,y7,y8,y9,b6⟩:=X9 (ud r wr HQ).krow hx;injection b3 with aI aJ aK;subst aI;have ad:=ze (zjj m ((q:Int)+1) s k x hx);have bj:(k:Int)<m.tg.length:=(by omega);generalize(m.tg.take k).foldl (qE ((q:Int)+1) s) (zdr m ((q:Int)+1) s)=T at*;have HT:=ze hT;clear hx hT aJ aK;have aj:Nonempty (zm wr.1.size wr):=zm.some _ _;have ai:=fun(u:zm wr.1.size wr) b o h=>u.cell b o h;by_cases o1:x.kind=(q:Int)+1
        ·have b4:(x.kind==(q:Int)+1)=true:=(by simp[o1]);by_cases o2:x.s=s
         ·have Q:=ze (zlT (t:=T) o1 o2);have o3:x.s.t=s.t:=(by rw[o2]);have o4:x.s.se=s.se:=(by rw[o2]);have o5:x.s.we=s.we:=(by rw[o2]);have p3:(x.s.t==s.t)=true:=(by simp[o3]);have p4:(x.s.se==s.se)=true:=(by simp[o4]);have p5:(x.s.we==s.we)=true:=(by simp[o5]);clear o1 o2 o3 o4 o5;go_wp2_with fail;refine zh wr.1.size (by kernel_rfl) (by kernel_rfl) ?_;repeat(go_big_quiet_step (fail))
          refine wpQuiet_nil ?_;rintro⟨w2,a⟩;dsimp only;clear ai aj;have bq:=(a.cell (p:=(U p 11)) aZ).trans aa;have c0:=(a.cell (p:=(U X (k*11))) f).trans y0;have c1:=(a.cell (p:=(U X (k*11+1))) f).trans y1;have c2:=(a.cell (p:=(U X (k*11+2))) f).trans y2;have c3:=(a.cell (p:=(U X (k*11+3))) f).trans y3;have c4:=(a.cell (p:=(U X (k*11+4))) f).trans y4;have c5:=(a.cell (p:=(U X (k*11+5))) f).trans y5;have c6:=(a.cell (p:=(U X (k*11+6))) f).trans y6;have c7:=(a.cell (p:=(U X (k*11+7))) f).trans y7;have c8:=(a.cell (p:=(U X (k*11+8))) f).trans y8;have c9:=(a.cell (p:=(U X (k*11+9))) f).trans y9;have bc:=(a.cell (p:=(U X (k*11+10))) f).trans b6;have a8:=(a.block _ af).trans HT;obtain⟨t0,t1,t2,t3,t4,t5,t6,t7,t8,t9,b5⟩:=xQ a8;have tf:∀j,w2.frozen? (U w1.1.size j)=false:=fun j=>zI a8 j;have W:=ze a8;have K:=ze a;clear a8 a;go_wp2_with fail;go_roundw;case rel=>
           refine⟨k+1,by omega,by go_num,by rw[ud ad,ud Q];exact zqs W x,?_⟩;repeat(refine qC ?_ (Z _))
           exact E.trans (K.mono E.size)
          case measure=>simp[intOf];omega
         ·have Q:=ze (zlS (kind:=(q:Int)+1) (t:=T) o2);have hd:=zot o2;clear o1 o2;rcases hd with hd|⟨aU,hd⟩|⟨aU,be,hd⟩;all_goals
           go_wp2_with fail
           refine zh wr.1.size (by kernel_rfl) (by kernel_rfl) ?_
           repeat(go_big_quiet_step (fail))
           refine wpQuiet_nil ?_
           rintro⟨w2,a⟩
           dsimp only
           clear ai aj
           have W:=ze ((a.block _ af).trans HT)
           have K:=ze a
           clear a
           go_wp2_with fail
           go_roundw
           case rel=>exact⟨k+1,by omega,by go_num,by rw[ud ad,ud Q];exact ud W,E.trans (K.mono E.size)⟩
           case measure=>simp[intOf];omega
        ·have Q:=ze (zlR (s:=s) (t:=T) o1);have b4:(x.kind==(q:Int)+1)=false:=(by simp[o1]);clear o1;go_wp2_with fail;refine zh wr.1.size (by kernel_rfl) (by kernel_rfl) ?_;repeat(go_big_quiet_step (fail))
         refine wpQuiet_nil ?_;rintro⟨w2,a⟩;dsimp only;clear ai aj;have W:=ze ((a.block _ af).trans HT);have K:=ze a;clear a;go_wp2_with fail;go_roundw;case rel=>exact⟨k+1,by omega,by go_num,by rw[ud ad,ud Q];exact ud W,E.trans (K.mono E.size)⟩
         case measure=>simp[intOf];omega
       ·have aX:k=m.tg.length:=(by omega);have aA:(m.tg.take k).foldl (qE ((q:Int)+1) s) (zdr m ((q:Int)+1) s)=yc m ((q:Int)+1) s:=(by rw[aX,List.take_length];rfl);rw[aA]at hT;generalize yc m ((q:Int)+1) s=T at*;obtain⟨t0,t1,t2,t3,t4,t5,t6,t7,t8,t9,b5⟩:=xQ hT;have aR:=ze (zmE w0.1.size P _ T wr (by omega) (zY aS E));clear hT aA;go_wp2_with fail;refine aR.mono ?_;rintro e w4 ⟨v4,rfl,am,aB⟩;obtain⟨a4,c4,b1⟩:=zq am;subst b1;have aO:=ze am;have aN:=ze (HQ.trans (aB.mono HQ.size));clear am aB;go_wp2_with fail;go_roundw;case rel=>exact⟨q+1,by omega,by go_num,by rw[ud ab,ud ae];exact yw aO (by have:=HQ.size;omega),aN⟩
        case measure=>simp[intOf];omega
    ·have b0:q=2:=(by omega);subst b0;go_wp2_with fail;go_roundw;case rel=>exact⟨i+1,by omega,by go_num,by rw[ud aP];exact ud C,l⟩
     case measure=>simp[intOf];omega
  ·have aV:i=L.length:=(by omega);subst aV;have hr:=ud r wr l;obtain⟨-,-,-,-,-,-,-,-,-,-,-,aa,-⟩:=zc hr.head;have rf:∀j,wr.frozen? (U p j)=false:=fun j=>zI hr.head j;have aT:B_ w wr:=aw.trans (l.mono ap);have bm:=hr.lt;have aM:=ze (hr.setTasks (ts:=qt m L L.length) (yw C (show B<=w0.1.size by omega)));have FO:=ze (fun k hk=>(C.lt k hk).1);have FK:=ze (zk (i:=11) (v:=.slice az (qt m L L.length).length cz) (kC (zj.refl (fun k=>k=p) w) aT) rfl);clear hr;go_wp2_with fail;go_end0;refine⟨rfl,_,?_,FK,fun k hk=>Nat.le_trans ap (ud FO k hk)⟩;rw[ud ax];exact aM
theorem zR.setNow(h:zR B w p m tv nv pv gv kv)(n:Int):zR B (w.setCell (U p 7) (I n)) p {m with now:=n} tv nv pv gv kv:=by
 have a:zj (fun k=>k=p) w (w.setCell (U p 7) (I n)):=zk (zj.refl _ _) rfl;exact⟨xq (i:=7) h.head (I n),h.base,zi h.trow a (zv h.head h.trow (by decide)),zi h.nrow a (zv h.head h.nrow (by decide)),zi h.prow a (zv h.head h.prow (by decide)),zi h.grow a (zv h.head h.grow (by decide)),zi h.krow a (zv h.head h.krow (by decide))⟩
def RM.tick(m:RM)(n:Int):RM×Int:=if n<1\/1000<n\/100000<m.now+n then(m,5)else({m with now:=m.now+n}.settled,0)
theorem zfk{n:Int}(h:n<1\/1000<n\/100000<m.now+n):m.tick n=(m,5):=by simp[RM.tick,h]
theorem Tryz.infoNumber:(prog.info? 319).map (fun i=>(i.zero,i.size,i.bytes))=J (J (.agg #[I 0,I 0,i_ 0]),3,24):=by kernel_rfl
def zds(x:Nm):Obj:=.cells #[I x.se,I x.tm,i_ x.val] 319 (0,0)
theorem zcm{a:Act}(n:o.guard=D)(s x:Operand)(y:o.op=.call {callee:=.builtin .append,args:=#[s,x],argTypes:=#[224,224]})(base:Nat)(v:V)(l:List Nm)(f:Nm)(A:a.eval s=v)(j:w.ownsRow base 319 3 v l.length (l.flatMap nmV))(k:Nat)(C:a.eval x=.slice (J (U k 0)) 1 1)(m:w.1[k]?=J (zds f))(H:l.length<=1099511627776)(c:base<=w.1.size)(h:∀g cap w',w'.ownsRow base 319 3 (.slice (J (U g 0)) (l.length+1) cap) (l++[f]).length ((l++[f]).flatMap nmV)->w.grownBy w' v.ownBlock->(v.ownBlock=J g\/g=w.1.size)->g<w'.1.size->K (a.put o.dst (.slice (J (U g 0)) (l.length+1) cap)) w'):
  if Region.wanted o (yielded ops a.tmps)=true then Oper.wp prog o a w K Q else E:=by
 have B:Region.wanted o (yielded ops a.tmps)=true:=by simp[Region.wanted,n]
 rw[if_pos B];have b:=Tryz.infoNumber;cases p:prog.info? 319 with
 |none=>simp[p]at b
 |some i=>
  simp only[p,Option.map_some,Option.some.injEq,Prod.mk.injEq]at b;obtain⟨F,e,hby⟩:=b;obtain⟨g,cap,w',z,q,_,r,t,u⟩:=vT (P:=prog) w 224 o.type base 319 i _ 3 24 underlying224 p F e hby rfl (by decide) v l.length (l.flatMap nmV) j (U k 0) 1 1 (nmV f) rfl
   (World.news_of_block (cs:=(nmV f).toArray) m) (ziN f) (by decide) (by simp only[maxLen];omega) (by omega) c
  unfold Oper.wp;simp[execOp,y,resolve,invoke,builtin,A,C,z,Result.andThen];exact h g cap w' (YL q) r t u
theorem ZT{e:TypeId}(h:w.ownsRow base e size v n xs):w.drew.ownsRow base e size v n xs:=h
theorem Z1{row:Option Nat}(h:w.drew.grownBy w' row):w.grownBy w' row:=⟨h.os,h.tape,h.output,h.size,h.block⟩
theorem ZS(w:S)(o:Obj):(w.alloc o).drew.1[w.1.size]?=J o:=zo w o
theorem vE(w:S)(o:Obj):(w.alloc o).drew.1.size=w.1.size+1:=zE w o
theorem xZ{j r s p q:Nat}{f g:TypeId}{h i:V}{t u:List V}(l:w.ownsRow j f r h p t)(m:w.ownsRow B2 g s i q u)(n:f≠g):∀k,h.ownBlock=J k->¬i.ownBlock=J k:=fun k o e=>by
 obtain⟨v,c⟩:=zG l o;obtain⟨x,a⟩:=zG m e;rw[c]at a;injection a with b;injection b with _ b;exact n b
theorem zR.setNums{w5:S}{x:Nm}(h:zR B w p m tv nv pv gv kv)(c:zj (fun k=>nv.ownBlock=J k) w w5)(b:w5.ownsRow B 319 3 z (m.nu++[x]).length ((m.nu++[x]).flatMap nmV)):zR B (w5.setCell (U p 8) z) p {m with nu:=m.nu++[x]} tv z pv gv kv:=by
 have a:=c.heap h.head (fun e=>zv h.head h.nrow (by decide) p e rfl);have f:zj (fun k=>k=p) w5 (w5.setCell (U p 8) z):=zk (zj.refl _ _) rfl;have a1:=zi h.trow c (xZ h.trow h.nrow (by decide));have a2:=zi h.prow c (xZ h.prow h.nrow (by decide));have a3:=zi h.grow c (xZ h.grow h.nrow (by decide));have a4:=zi h.krow c (xZ h.krow h.nrow (by decide));exact⟨xq (i:=8) a z,h.base,zi a1 f (zv a a1 (by decide)),zi b f (zv a b (by decide)),zi a2 f (zv a a2 (by decide)),zi a3 f (zv a a3 (by decide)),zi a4 f (zv a a4 (by decide))⟩
def yJ(m:RM)(L:List Sg)(x:Nm)(k:Nat):Int:=(List.range k).foldl (fun(c:Int) (t:Nat)=>if zT m.c (t:Int) x∈L then c else c+2) (m.used+1)
theorem zda{x:Nm}(h:zT m.c (k:Int) x∈L):yJ m L x (k+1)=yJ m L x k:=by simp[yJ,List.range_succ,h]
theorem JK{x:Nm}(h:¬zT m.c (k:Int) x∈L):yJ m L x (k+1)=yJ m L x k+2:=by simp[yJ,List.range_succ,h]
theorem Kh(m:RM)(L:List Sg)(x:Nm):∀k:Nat,m.used+1<=yJ m L x k/\yJ m L x k<=m.used+1+2*k
 |0=>by simp[yJ]
 |k+1=>by
  have:=Kh m L x k;by_cases h:zT m.c (k:Int) x∈L
  ·rw[zda h];omega
  ·rw[JK h];omega
def RM.ingest(m:RM)(se tm val:Int):RM×Int:=
 if se<0\/4<=se then(m,2)
 else if tm<0\/m.now<tm then(m,5)
 else if tm<m.now-m.c.la then(m,3)
 else if m.c.qu<yJ m (zV m.c m.nu) ⟨se,tm,val⟩ m.c.n then(m,4)
 else({m with nu:=m.nu++[Nm.mk se tm val]}.settled,0)
theorem QN(h:se<0\/4<=se):m.ingest se tm val=(m,2):=by simp[RM.ingest,h]
theorem Xw(h:¬(se<0\/4<=se))(a:tm<0\/m.now<tm):m.ingest se tm val=(m,5):=by unfold RM.ingest;rw[if_neg h,if_pos a]
theorem Kw(h:¬(se<0\/4<=se))(a:¬(tm<0\/m.now<tm))(b:tm<m.now-m.c.la):m.ingest se tm val=(m,3):=by unfold RM.ingest;rw[if_neg h,if_neg a,if_pos b]
theorem Kv(h:¬(se<0\/4<=se))(a:¬(tm<0\/m.now<tm))(b:¬tm<m.now-m.c.la)(e:m.c.qu<yJ m (zV m.c m.nu) ⟨se,tm,val⟩ m.c.n):m.ingest se tm val=(m,4):=by unfold RM.ingest;rw[if_neg h,if_neg a,if_neg b,if_pos e]
theorem zbt(h:¬(se<0\/4<=se))(a:¬(tm<0\/m.now<tm))(b:¬tm<m.now-m.c.la)(e:¬m.c.qu<yJ m (zV m.c m.nu) ⟨se,tm,val⟩ m.c.n):m.ingest se tm val=({m with nu:=m.nu++[Nm.mk se tm val]}.settled,0):=by unfold RM.ingest;rw[if_neg h,if_neg a,if_neg b,if_neg e]
def zig(B:Nat)(w:S)(p:Nat)(m:RM)(tv nv pv gv kv:V)(w':S):Prop:=
 ∃b a,zR B w' p m tv b pv gv a/\zj (fun k=>k=p\/nv.ownBlock=J k) w w'/\(∀k,b.ownBlock=J k->nv.ownBlock=J k\/w.1.size<=k)/\∀k,a.ownBlock=J k->kv.ownBlock=J k\/w.1.size<=k
theorem yL(h:zR B w p m tv nv pv gv kv)(a:B_ w w'):zig B w p m tv nv pv gv kv w':=
 ⟨nv,kv,h.later a,zj.of_below a,fun _ h=> .inl h,fun _ h=> .inl h⟩
theorem zdJ(h:zR B w p m tv nv pv gv kv)(hB:B<=w.1.size)(hc:m.c.ok)(bl:m.nu.length<=100000000)(ar:m.gone.length<=1000000000000)(aU:m.pub.length<=1000000000000)(aR:m.tg.length<=1000000000000)(a3:∀x∈m.nu,x.ok)(aw:0<=m.now/\m.now<=100000)(hu:m.used<=1000000000000000000)(se tm val:Int)(a8: -2147483648<=val/\val<=2147483647):
  Calls prog 211 #[(O p),I se,I tm,i_ val] w fun e w'=>e=.returned (I (m.ingest se tm val).2)/\zig B w p (m.ingest se tm val).1 tv nv pv gv kv w':=by
 obtain⟨aY,aZ⟩:=aw;obtain⟨r7,r8,r9,b1,b2,b3,b4⟩:=h.rest;have hp:=h.lt;obtain⟨c0,c1,c2,c3,c4,c5,c6⟩:=h.conf;obtain⟨bi,bj⟩:=hc.la;have H:=ze h;obtain⟨an,cn,aT⟩:=zq h.nrow;subst aT;obtain⟨at_,ct,aW⟩:=zq h.trow;subst aW;clear r8 r9 b1 b2 b3 b4 h c0 c1 c3 c4 c5 c6;by_cases e1:se<0
 ·rw[QN (.inl e1)];go_in;go_wp2_with fail;go_ret;exact⟨rfl,yL H (N _ _)⟩
 by_cases e2:4<=se
 ·rw[QN (.inr e2)];go_in;go_wp2_with fail;go_ret;exact⟨rfl,yL H (N _ _)⟩
 by_cases e3:tm<0
 ·rw[Xw (by omega) (.inl e3)];go_in;go_wp2_with fail;go_ret;exact⟨rfl,yL H (N _ _)⟩
 by_cases e4:m.now<tm
 ·rw[Xw (by omega) (.inr e4)];go_in;go_wp2_with fail;go_ret;exact⟨rfl,yL H (N _ _)⟩
 have av:Nonempty (zm w.1.size w):=zm.some _ _;have au:=fun(u:zm w.1.size w) b o h=>u.cell b o h;by_cases e5:tm<m.now-m.c.la
 ·rw[Kw (by omega) (by omega) e5];go_in;go_wp2_with fail;refine zh w.1.size (by kernel_rfl) (by kernel_rfl) ?_;repeat(go_big_quiet_step (fail))
  refine wpQuiet_nil ?_;rintro⟨w1,r⟩;dsimp only;clear au av;go_wp2_with fail;go_ret;exact⟨rfl,yL H r⟩
 have aB:(Nm.mk se tm val).ok:=⟨a8.1,a8.2,by show 0<=tm;omega,by show tm<=100000;omega,by show 0<=se;omega,by show se<4;omega⟩;have aV:=jK (nu:=m.nu) hc.n4 (by omega);have aA:=Ya (c:=m.c) (rc:=m.gone) (l:=zV m.c m.nu) aV (by omega) a3;have bo:0<=m.used:=aA.1;have aa:=ze (Kv (m:=m) (se:=se) (tm:=tm) (val:=val) (by omega) (by omega) (by omega));have aI:=ze (zbt (m:=m) (se:=se) (tm:=tm) (val:=val) (by omega) (by omega) (by omega));have bk:=hc.n4;obtain⟨bm,bn⟩:=hc.qu;clear aA;go_in;go_wp2_with fail;refine zh w.1.size (by kernel_rfl) (by kernel_rfl) ?_;repeat(go_big_quiet_step (fail))
 refine wpQuiet_nil ?_;rintro⟨w1,r⟩;dsimp only;clear au av;have s:B_ w (w1.alloc (zds ⟨se,tm,val⟩)):=r.alloc r.size _;have ao:=zo w1 (zds ⟨se,tm,val⟩);have ap:=zE w1 (zds ⟨se,tm,val⟩);have aj:=ze (jr (H.later s) hc (by omega) a3);have ba:=r.size;clear r r7 c2;go_wp2_with fail;change Calls prog _ _ (w1.alloc (zds ⟨se,tm,val⟩)) _;generalize(w1.alloc (zds ⟨se,tm,val⟩))=X at*;refine aj.mono ?_;rintro e w2 ⟨v,rfl,ah,K⟩;obtain⟨al,cl,aX⟩:=zq ah;subst aX;have aK:=ze ah;have bb:=ze K;have a6:B_ w w2:=s.trans (K.mono s.size);have ak:=ze (zaR (H.later a6) hc (by omega) ar a3);clear ah aj;go_wp2_with fail;refine ak.mono ?_;rintro e w3 ⟨rfl,ac⟩;have j:B_ X w3:=K.trans (ac.mono K.size);have b5:=ze j;have E:B_ w w3:=s.trans (j.mono s.size);have ai:=ze E;have aL:=ze (zY aK ac);have am:=ze ((j.block w1.1.size (by omega)).trans ao);have aC:=E.size;have bd:=ze ap;clear K ac j E ao ap a6 ak s;generalize hL:zV m.c m.nu=L at*;have aE:=ze (Kh m L ⟨se,tm,val⟩);go_wp2_with fail;go_loopw [11,12,13,14] (fun z y _ _ wr=>∃(k:Nat),k<=m.c.n/\y=I k/\z=I (yJ m L ⟨se,tm,val⟩ k)/\B_ w3 wr) (fun _ y _ _ _=>m.c.n-(intOf y).toNat);case atStart=>exact⟨0,d _,rfl,by simp[yJ],N _ _⟩
 case round=>
  obtain⟨k,hk,rfl,rfl,P⟩:=hrel;have a2:=ze P;have F:B_ w wr:=ai.trans (P.mono aC);have HR:=ze (H.later F);have f:=ze F;obtain⟨c0,c1,c2,c3,c4,c5,c6⟩:=HR.conf;have ay:=HR.lt;have A:=(P.block w1.1.size (zd am)).trans am;have bc:=ze A;have aN:=ud aE k;obtain⟨b6,b7⟩:=aN;have bp:=zd A;have aM:=ze (zY aL P);clear c0 c1 c2 c3 c4 P F;by_cases bh:k<m.c.n
  ·obtain⟨n0,n1,n2,-⟩:=zc A;have aS:(k:Int)<m.c.n:=(by omega);have ab:=ze (XH HR hc (k:Int) (by omega) aS ⟨se,tm,val⟩ aB);clear A c5;go_wp2_with fail;refine ab.mono ?_;rintro e w4 ⟨rfl,ad⟩;have aF:=ze (zda (m:=m) (L:=L) (x:=⟨se,tm,val⟩) (k:=k));have aG:=ze (JK (m:=m) (L:=L) (x:=⟨se,tm,val⟩) (k:=k));generalize yJ m L ⟨se,tm,val⟩ k=C at*;generalize zT m.c (k:Int) ⟨se,tm,val⟩=sg at*;have af:∀o,B_ wr (w4.alloc o):=fun o=>ad.alloc ad.size _;have a0:=ze (qq X.1.size L _ sg _ (by omega) (zY aM (af (.cells #[I sg.t,I sg.se,I sg.we] 287))));have a1:=ze (af (.cells #[I sg.t,I sg.se,I sg.we] 287));clear af ad;rcases vC sg L with⟨hm,W⟩|⟨hm,W⟩
   ·rw[hm]at a0;have a9:=ze (ud aF W);clear hm W;go_wp2_with fail;refine a0.mono ?_;rintro e w5 ⟨rfl,ae⟩;have FB:=ze (a2.trans ((a1.trans (ae.mono a1.size)).mono a2.size));go_wp2_with fail;go_roundw;case rel=>exact⟨k+1,by omega,by go_num,by rw[ud a9],ud FB⟩
    case measure=>simp[intOf];omega
   ·rw[hm]at a0;have a9:=ze (ud aG W);clear hm W;go_wp2_with fail;refine a0.mono ?_;rintro e w5 ⟨rfl,ae⟩;have FB:=ze (a2.trans ((a1.trans (ae.mono a1.size)).mono a2.size));go_wp2_with fail;go_roundw;case rel=>exact⟨k+1,by omega,by go_num,by rw[ud a9],ud FB⟩
    case measure=>simp[intOf];omega
  ·have aQ:k=m.c.n:=(by omega);subst aQ;by_cases ag:m.c.qu<yJ m L ⟨se,tm,val⟩ m.c.n
   ·have HF:=ze (ud aa ag);generalize yJ m L ⟨se,tm,val⟩ m.c.n=C at*;go_wp2_with fail;go_ret;rw[ud HF];exact⟨rfl,yL H f⟩
   ·have HF:=ze (ud aI (by omega));generalize yJ m L ⟨se,tm,val⟩ m.c.n=C at*;go_wp2_with fail;obtain⟨n0,n1,n2,-⟩:=zc A;obtain⟨-,-,-,-,-,-,-,-,r8,-⟩:=zc (HR.head);have rf:wr.frozen? (U p 8)=false:=zI HR.head 8;have a4:=ze HR.nrow;have bg:B<=wr.1.size:=Nat.le_trans hB f.size;have za:∀o:Obj,(wr.alloc o).cell? (U p 8)=J (.slice an m.nu.length cn):=fun o=>(((N wr.1.size wr).alloc (Z _) o).cell (p:=(U p 8)) ay).trans r8;clear A;go_region_law (refine zcm rfl (.tmp 84) (.tmp 86) rfl B _ m.nu ⟨se,tm,val⟩ (by simp[Act.eval]) (ZT ((ud a4).alloc _)) wr.1.size (by simp[Act.eval]) (ZS wr (zds ⟨se,tm,val⟩)) ?hll ?hbb ?_;(case hll=>omega);(case hbb=>(rw[vE];omega));intro g3 a5 w5 a7 q aq b8;have Q:=Z1 q;clear q;have T:zj (fun k=>(Value.slice an m.nu.length cn).ownBlock=J k) wr w5:=zj.grown ((zj.refl _ _).alloc _) Q (fun k hk _=>hk);have ax:w5.1[p]?=wr.1[p]?:=(T.block p ay (fun e=>zv (ud HR).head (ud a4) (by decide) p e rfl));have d0:=(World.cell?_of_block (a:=(U p 8)) ax).trans r8;have d1:=(World.frozen?_of_block (a:=(U p 8)) ax).trans rf)
    all_goals
     have H5:=ze (HR.setNums T a7)
     have bf:wr.1.size<=w5.1.size:=T.size
     have be:(w5.setCell (U p 8) (.slice (J (U g3 0)) (m.nu.length+1) a5)).1.size=w5.1.size:=by simp[World.setCell]
     have b9:=f.size
     have ab:=ze (ZW H5 (by omega) hc (by show(m.nu++[Nm.mk se tm val]).length<=1000000000;simp;omega) ar aU aR (fun x hx=>by
      rcases List.mem_append.1 hx with hx|hx
      ·exact a3 x hx
      ·rw[List.mem_singleton.1 hx];exact aB) ⟨aY,aZ⟩)
     have aD:=ze aq
     have aH:=ze T
     clear aq T a7 Q
     go_wp2_with fail
     refine ab.mono ?_
     rintro e w6 ⟨rfl,b0,az,aP,aO⟩
     have aJ:=ze az
     clear az
     go_wp2_with fail
     go_ret
     rw[ud HF]
     refine⟨rfl,_,b0,aJ,?_,fun k hk=>?_,fun k hk=> .inr ?_⟩
     ·have k1:zj (fun k=>k=p\/(Value.slice an m.nu.length cn).ownBlock=J k) w wr:=zj.of_below f
      have k2:=k1.trans aH (fun _ _ h=> .inr h)
      have k3:=zk (i:=8) (g:=p) (v:=.slice (J (U g3 0)) (m.nu.length+1) a5) k2 (.inl rfl)
      exact k3.trans aP (fun _ _ h=> .inl h)
     ·simp[Value.ownBlock]at hk
      subst hk
      rcases ud aD with h|h
      ·exact .inl h
      ·right;rw[vE]at h;omega
     ·have:=aO k hk;omega
theorem Tryz.infoTierR:(prog.info? 80).map (fun i=>(i.zero,i.size,i.bytes))=J (J (.agg #[I 0,I 0,I 0]),3,24):=by kernel_rfl
def vP(n:Nat):Array V:=madeCells #[I 0,I 0,I 0] (n*3)
theorem Xo(n:Nat):(vP n).size=n*3:=size_madeCells _ _
theorem zbE(n:Nat)(j:n<=4)(a:S):
  (Instr.makeSlice 25 (I (n:Int)) (I (n:Int))).run prog a=.ok (.slice (J (U a.1.size 0)) n n) (a.alloc (.cells (vP n) 80)):=by
 have c:=Tryz.infoTierR;cases e:prog.info? 80 with
 |none=>simp[e]at c
 |some i=>
  simp only[e,Option.map_some,Option.some.injEq,Prod.mk.injEq]at c;obtain⟨h,g,b⟩:=c;have f:=run_make (P:=prog) a 25 80 i _ underlying25 e h .i64 .i64 (n:Int) (n:Int) (by omega) (by omega) (by rw[b];omega) (by omega);rw[f,g];rfl
theorem zkw{a:Option Addr}{F W K:Nat->Int}(h:TS w a n F W K):0<(Qp n F W K).length->∃ad,a=J ad/\∀j v,(Qp n F W K)[j]?=J v->w.cell? (ad.add j)=J v:=by
 intro l;rw[xv]at l;obtain⟨b,off,rfl,_,m⟩:=h (by omega);refine⟨_,rfl,fun j v hv=>?_⟩;have o:j<n*3:=by
  have:=(List.getElem?_eq_some_iff.1 hv).1;rwa[xv]at this
 rw[YR n F W K j o]at hv;cases hv;have f:((U b off):Addr).add j=(U b (off+j)):=by unfold Addr.add;split<;>simp_all
 rw[f];obtain⟨g,i,k⟩:=m (j/3) (by omega);rcases(show j%3=0\/j%3=1\/j%3=2 by omega)with e|e|e
 ·have c:j=j/3*3:=by omega
  rw[c,zcS];exact g
 ·have c:j=j/3*3+1:=by omega
  rw[c,zcT];exact i
 ·have c:j=j/3*3+2:=by omega
  rw[c,zcU];exact k
theorem zaA(c:Cf)(o:c.ok)(a:Option Addr)(cap:Nat)(ep:Int)(w:S)(h:TS w a c.n c.F c.W c.K):
  Calls prog 77 #[(cZz c a cap),I ep] w fun e w'=>∃p tv,e=.returned (O p)/\zR w.1.size w' p ⟨c,0,[],[],[],[],ep,0⟩ tv (.slice D 0 0) (.slice D 0 0) (.slice D 0 0) (.slice D 0 0)/\B_ w w':=by
 have l:=zbE c.n o.n4;go_in;go_wp2_with fail;obtain⟨t,m,u,b,v⟩:=box3 w (.cells (aZz c a cap) 27) (.cells #[I c.s,I c.le,I c.la,I c.wi,I c.ke,I c.qu,.slice (J (U (w.1.size+1+1) 0)) c.n c.n,I 0,.slice D 0 0,.slice D 0 0,.slice D 0 0,.slice D 0 0,I ep,I 0] 228) (.cells (vP c.n) 80);generalize(((w.alloc (.cells (aZz c a cap) 27)).alloc (.cells #[I c.s,I c.le,I c.la,I c.wi,I c.ke,I c.qu,.slice (J (U (w.1.size+1+1) 0)) c.n c.n,I 0,.slice D 0 0,.slice D 0 0,.slice D 0 0,.slice D 0 0,I ep,I 0] 228)).alloc (.cells (vP c.n) 80))=X at*;have g:=h.below b;obtain⟨j,y,HR,f⟩:∃j,(Builtin.copy_ #[25,25] 3 #[.slice (J (U (w.1.size+1+1) 0)) c.n c.n,.slice a c.n cap]).run prog X.drew=.ok (I c.n) j/\
   Hid (j.1[w.1.size+1+1]?=J (.cells (Qp c.n c.F c.W c.K).toArray 80 (0,0)))/\Hid (Y (w.1.size+2) X j):=by
  have q:X.drew.1[w.1.size+1+1]?=J (.cells (vP c.n) 80 (0,0)):=u;have i:TS X.drew a c.n c.F c.W c.K:=g;have r:=Qq (P:=prog) X.drew 25 25 3 80 3 (w.1.size+1+1) c.n c.n a c.n cap (vP c.n) 80 (Qp c.n c.F c.W c.K) underlying25 (by kernel_rfl) q
   (by rw[xv];simp) (zkw i) (by rw[xv,Xo];omega) (zaC c.n c.F c.W c.K)
  have B:Nat.min c.n c.n=c.n:=by simp
  have z:(Qp c.n c.F c.W c.K++(vP c.n).toList.drop (Qp c.n c.F c.W c.K).length).toArray=(Qp c.n c.F c.W c.K).toArray:=by
   rw[List.drop_eq_nil_of_le (by rw[xv];simp[Xo]),List.append_nil]
  rw[B,z]at r;exact⟨_,r,setRow_heap _ _ _ _ _ _ q,below_setRow ((N _ _).drew) (Z _) _⟩
 obtain⟨-,-,-,-,-,-,E,-⟩:=zc m;obtain⟨-,-,-,-,-,-,H,-⟩:=zc t;have x:=ze m;have C:=ze v;have k:=ze b;clear t m u v b g l h;go_region
 go_wp2_with fail;go_ret;have A:=(f.block (w.1.size+1) (by omega)).trans x;refine⟨_,_,rfl,⟨A,by omega,⟨xv _ _ _ _,.inr ⟨_,_,_,rfl,by omega,HR,?_⟩⟩,World.ownsRow_nil _ _ _ _,World.ownsRow_nil _ _ _ _,World.ownsRow_nil _ _ _ _,World.ownsRow_nil _ _ _ _⟩,k.trans (f.mono (by omega))⟩;refine⟨Z _,by have:=o.n4;simp only[maxLen];omega,by simp[xv],?_⟩;show List.take (c.n*3) (Qp c.n c.F c.W c.K)=Qp c.n c.F c.W c.K;exact List.take_of_length_le (by rw[xv];omega)
theorem zlP{e:TypeId}{cap:Nat}(h:w.ownsRow B e size (.slice (J (U g 0)) n cap) n xs):∀j u,xs[j]?=J u->w.cell? (((U g 0):Addr).add j)=J u:=h.cells (g:=g) rfl
theorem Vb(w:S)(t p e:TypeId)(i:TypeInfo)(z:V)(size b:Nat)(s:P.underlying t=J (.slice e))(q:P.info? e=J i)(F:i.zero=J z)(h:i.size=size)(hby:i.bytes=b)(o:z.cells.size=size)(m:0<size)(B:Nat)(j:V)(n:Nat)(xs:List V)(f:w.ownsRow B e size j n xs)(x:∀u∈xs,u.oneCell'=true)(h63:n<=maxLen)(hbytes:n*b<=140737488355328):
  ∃a c w',(Builtin.append_ #[t,t] p #[.slice D 0 0,j]).run P w=.ok (.slice a n c) w'/\w'.ownsRow w.1.size e size (.slice a n c) n xs/\B_ w w':=by
 rcases f.2 with⟨rfl,rfl⟩|⟨g,cap,v,rfl,H,I,r⟩
 ·have E:xs=[]:=List.eq_nil_of_length_eq_zero (by have:=f.1;simpa using this);subst E;exact⟨D,0,w,run_append_owned_none (P:=P) w w.1.size t p e i size s q _ 0 [] (World.ownsRow_nil _ _ _ _),World.ownsRow_nil _ _ _ _,N _ _⟩
 ·obtain⟨K,w',C,l,y,_,_⟩:=run_append_own_at (P:=P) w w.1.size t p e i z size b s q F h hby o m (.slice D 0 0) 0 [] (World.ownsRow_nil _ _ _ _) (U g 0) n cap xs f.1 (zlP f) x (by omega) (by simpa using hbytes) (Z _);rw[Nat.zero_add,List.nil_append]at l;obtain⟨a,c,rfl⟩:=zq l;exact⟨a,c,w',C,l,(N _ _).grown y (Z _) (fun k A=>by cases A)⟩
theorem yE{a:Act}(l:o.guard=D)(s x:Operand)(t:TypeId)(A:o.op=.call {callee:=.builtin .append,args:=#[s,x],argTypes:=#[t,t]})(e:TypeId)(z:V)(size b:Nat)(H:P.underlying t=J (.slice e))(c:(P.info? e).map (fun i=>(i.zero,i.size,i.bytes))=J (J z,size,b))(q:z.cells.size=size)(p:0<size)(B:Nat)(g:V)(n:Nat)(xs:List V)(F:a.eval s=.slice D 0 0)(L:a.eval x=g)(j:w.ownsRow B e size g n xs)(r:∀u∈xs,u.oneCell'=true)(h63:n<=maxLen)(hbytes:n*b<=140737488355328)(h:∀a' k w',w'.ownsRow w.1.size e size (.slice a' n k) n xs->B_ w w'->K (a.put o.dst (.slice a' n k)) w'):
  if Region.wanted o (yielded ops a.tmps)=true then Oper.wp P o a w K Q else E:=by
 have I:Region.wanted o (yielded ops a.tmps)=true:=by simp[Region.wanted,l]
 rw[if_pos I];cases m:P.info? e with
 |none=>simp[m]at c
 |some i=>
  simp only[m,Option.map_some,Option.some.injEq,Prod.mk.injEq]at c;obtain⟨O,f,hby⟩:=c;obtain⟨a',k,w',C,v,y⟩:=Vb (P:=P) w t o.type e i z size b H m O f hby q p B g n xs j r h63 hbytes;unfold Oper.wp;simp[execOp,A,resolve,invoke,builtin,F,L,C,Result.andThen];exact h a' k w' v y
theorem ZO{base':Nat}{e:TypeId}(h:w.ownsRow base e size v n xs)(a:base'<=base):w.ownsRow base' e size v n xs:=yw h a
section
variable {B:Nat} {w:S} {p:Nat} {m:RM} {tv nv pv gv kv z:V}
theorem zR.putNums{l:List Nm}(h:zR B w p m tv nv pv gv kv)(b:w.ownsRow B 319 3 z l.length (l.flatMap nmV)):zR B (w.setCell (U p 8) z) p {m with nu:=l} tv z pv gv kv:=by
 have a:zj (fun k=>k=p) w (w.setCell (U p 8) z):=zk (zj.refl _ _) rfl;exact⟨xq (i:=8) h.head z,h.base,zi h.trow a (zv h.head h.trow (by decide)),zi b a (zv h.head b (by decide)),zi h.prow a (zv h.head h.prow (by decide)),zi h.grow a (zv h.head h.grow (by decide)),zi h.krow a (zv h.head h.krow (by decide))⟩
theorem zR.putPub(h:zR B w p m tv nv pv gv kv)(b:w.ownsRow B 287 3 z l.length (l.flatMap sgV)):zR B (w.setCell (U p 9) z) p {m with pub:=l} tv nv z gv kv:=by
 have a:zj (fun k=>k=p) w (w.setCell (U p 9) z):=zk (zj.refl _ _) rfl;exact⟨xq (i:=9) h.head z,h.base,zi h.trow a (zv h.head h.trow (by decide)),zi h.nrow a (zv h.head h.nrow (by decide)),zi b a (zv h.head b (by decide)),zi h.grow a (zv h.head h.grow (by decide)),zi h.krow a (zv h.head h.krow (by decide))⟩
theorem zR.putGone(h:zR B w p m tv nv pv gv kv)(b:w.ownsRow B 287 3 z l.length (l.flatMap sgV)):zR B (w.setCell (U p 10) z) p {m with gone:=l} tv nv pv z kv:=by
 have a:zj (fun k=>k=p) w (w.setCell (U p 10) z):=zk (zj.refl _ _) rfl;exact⟨xq (i:=10) h.head z,h.base,zi h.trow a (zv h.head h.trow (by decide)),zi h.nrow a (zv h.head h.nrow (by decide)),zi h.prow a (zv h.head h.prow (by decide)),zi b a (zv h.head b (by decide)),zi h.krow a (zv h.head h.krow (by decide))⟩
theorem zR.putPicks(h:zR B w p m tv nv pv gv kv)(n:Int):zR B (w.setCell (U p 13) (I n)) p {m with picks:=n} tv nv pv gv kv:=by
 have a:zj (fun k=>k=p) w (w.setCell (U p 13) (I n)):=zk (zj.refl _ _) rfl;exact⟨xq (i:=13) h.head _,h.base,zi h.trow a (zv h.head h.trow (by decide)),zi h.nrow a (zv h.head h.nrow (by decide)),zi h.prow a (zv h.head h.prow (by decide)),zi h.grow a (zv h.head h.grow (by decide)),zi h.krow a (zv h.head h.krow (by decide))⟩
end
def zkZ(w:S)(m:RM)(q:Nat)(w':S):Prop:=∃f e b a c,zR w.1.size w' q m f e b a c/\B_ w w'/\∀k,b.ownBlock=J k->¬a.ownBlock=J k
theorem zju(h:zR B w p m tv nv pv gv kv)(hc:m.c.ok)(aL:m.nu.length<=1000000000)(aJ:m.gone.length<=1000000000)(aM:m.pub.length<=1000000000)(aK:m.tg.length<=1000000000):
  Calls prog 141 #[(O p)] w fun e w'=>∃q,e=.returned (O q)/\zkZ w m q w':=by
 obtain⟨a,cap,aH⟩:=zq h.trow;subst aH;obtain⟨c0,P,Q,X,c4,c5,c6⟩:=h.conf;obtain⟨-,-,-,-,-,u,-⟩:=h.rest;have hp:=h.lt;have HM:=ze h;have aD:=ze (zaA m.c hc a cap m.epoch w (TS.of_owns h.trow));have aE:=ze (zaA m.c hc a cap m.epoch w.drew (TS.of_owns h.trow));clear h;go_in;go_wp2_with fail;go_region_held3 (fun w'=>w'.cell? (U p 0)=J (I m.c.s)/\w'.cell? (U p 1)=J (I m.c.le)/\w'.cell? (U p 2)=J (I m.c.la)/\w'.cell? (U p 3)=J (I m.c.wi)/\w'.cell? (U p 4)=J (I m.c.ke)/\w'.cell? (U p 5)=J (I m.c.qu)/\w'.cell? (U p 6)=J (.slice a m.c.n cap)/\w'.cell? (U p 12)=J (I m.epoch)) (go_keep) (first
  |(go_at_call 77;(first|refine aE.mono ?_|refine aD.mono ?_);rintro e X0 ⟨q,tq,rfl,aB,a0⟩;have f:B_ w X0:=⟨a0.os,a0.tape,a0.output,a0.size,a0.block⟩;clear a0;have T:=ze (show zR w.1.size X0 q ⟨m.c,0,[],[],[],[],m.epoch,0⟩ tq (.slice D 0 0) (.slice D 0 0) (.slice D 0 0) (.slice D 0 0)from aB);clear aB;have d0:=(f.cell (p:=(U p 0)) hp).trans c0;have d1:=(f.cell (p:=(U p 1)) hp).trans P;have d2:=(f.cell (p:=(U p 2)) hp).trans Q;have d3:=(f.cell (p:=(U p 3)) hp).trans X;have d4:=(f.cell (p:=(U p 4)) hp).trans c4;have d5:=(f.cell (p:=(U p 5)) hp).trans c5;have d6:=(f.cell (p:=(U p 6)) hp).trans c6;have aF:=(f.cell (p:=(U p 12)) hp).trans u))
 have HQ:=ze T.base;obtain⟨m7,m8,m9,l,o,H,K⟩:=(HM.later f).rest;obtain⟨r7,r8,r9,r,t,aC,L⟩:=T.rest;have rf:∀j,X0.frozen? (U q j)=false:=fun j=>zI T.head j;have aG:¬p=q:=by have:=ud HQ;omega
 have aI:¬q=p:=fun h=>aG h.symm;clear c0 P Q X c4 c5 c6 d0 d1 d2 d3 d4 d5 d6 aF r8 r9 r t u aC m8 m9 l o H;go_wp2_with fail;have a6:=ze ((T.setNow m.now).putPicks m.picks);have v:=ze ((f.setCell (p:=(U q 7)) HQ (I m.now)).setCell (p:=(U q 13)) HQ (I m.picks));generalize((X0.setCell (U q 7) (I m.now)).setCell (U q 13) (I m.picks))=X1 at*;clear f m7 K r7 L rf;obtain⟨r7,r8,r9,r,t,u,L⟩:=a6.rest;obtain⟨m7,m8,m9,l,o,H,K⟩:=(HM.later v).rest;have i:=a6.lt;have g:=(HM.later v).lt;have b:=ze ((HM.later v.drew).nrow);have h63:m.nu.length<=maxLen:=by simp only[maxLen];omega
 have hby:m.nu.length*24<=140737488355328:=by omega
 clear r7 r9 r t u L m7 m9 l o H K;go_wp2_with fail;rename_i K1 aK1;have ap:∀(a1:Option Addr) (P:Nat) (Y1:S),Hid (zR w.1.size Y1 q {(⟨m.c,0,[],[],[],[],m.epoch,0⟩:RM)with now:=m.now,picks:=m.picks} tq (.slice D 0 0) (.slice D 0 0) (.slice D 0 0) (.slice D 0 0))->Hid (Y1.ownsRow w.1.size 319 3 (.slice a1 m.nu.length P) m.nu.length (m.nu.flatMap nmV))->Hid (B_ w Y1)->K1 {tmps:=#[(O p),u_,.pointer D,(O q),(O p),(O p),(O p),.agg #[I m.c.s,I m.c.le,I m.c.la,I m.c.wi,I m.c.ke,I m.c.qu,.slice a m.c.n cap],(O p),(O p),.pointer (J (U p 12)),I m.epoch,(O q),(O q),(O p),(O p),.pointer (J (U p 7)),I m.now,(O q),.pointer (J (U q 7)),(O q),(O p),(O p),.pointer (J (U p 13)),I m.picks,(O q),.pointer (J (U q 13)),(O q),(O q),(O q),.pointer (J (U q 8)),.slice D 0 0,(O p),(O p),.pointer (J (U p 8)),nv,.slice a1 m.nu.length P,(O q),.pointer (J (U q 8)),u_,u_,u_,u_,u_,u_,u_,u_,u_,u_,u_,u_,u_,u_,u_,u_,u_,u_,u_,u_,u_,u_,u_,u_,u_,u_,u_,u_,u_,u_,u_,u_,u_,u_,u_,u_,u_],defers:=[]} (Y1.setCell (U q 8) (.slice a1 m.nu.length P)):=by
  intro a1 P Y1 ad ah al;refine aK1 _ _ ?_;clear aK1 i g b h63 hby r8 m8;have a7:=ze (ad.putNums ah);have x:=ze (al.setCell (p:=(U q 8)) HQ (.slice a1 m.nu.length P));generalize(Y1.setCell (U q 8) (.slice a1 m.nu.length P))=X2 at*;obtain⟨r7,r8,r9,r,t,u,L⟩:=a7.rest;obtain⟨m7,m8,m9,l,o,H,K⟩:=(HM.later x).rest;have i:=a7.lt;have g:=(HM.later x).lt;have b:=ze ((HM.later x.drew).prow);have h63:m.pub.length<=maxLen:=by simp only[maxLen];omega
  have hby:m.pub.length*24<=140737488355328:=by omega
  clear r7 r8 r t u L m7 m8 l o H K;go_wp2_with fail;rename_i K2 aK2;have aq:∀(a2:Option Addr) (Q:Nat) (Y2:S),Hid (zR w.1.size Y2 q {(⟨m.c,0,[],[],[],[],m.epoch,0⟩:RM)with now:=m.now,picks:=m.picks,nu:=m.nu} tq (.slice a1 m.nu.length P) (.slice D 0 0) (.slice D 0 0) (.slice D 0 0))->Hid (Y2.ownsRow w.1.size 287 3 (.slice a2 m.pub.length Q) m.pub.length (m.pub.flatMap sgV))->Hid (B_ w Y2)->K2 {tmps:=#[(O p),u_,.pointer D,(O q),(O p),(O p),(O p),.agg #[I m.c.s,I m.c.le,I m.c.la,I m.c.wi,I m.c.ke,I m.c.qu,.slice a m.c.n cap],(O p),(O p),.pointer (J (U p 12)),I m.epoch,(O q),(O q),(O p),(O p),.pointer (J (U p 7)),I m.now,(O q),.pointer (J (U q 7)),(O q),(O p),(O p),.pointer (J (U p 13)),I m.picks,(O q),.pointer (J (U q 13)),(O q),(O q),(O q),.pointer (J (U q 8)),.slice D 0 0,(O p),(O p),.pointer (J (U p 8)),nv,.slice a1 m.nu.length P,(O q),.pointer (J (U q 8)),(O q),(O q),(O q),.pointer (J (U q 9)),.slice D 0 0,(O p),(O p),.pointer (J (U p 9)),pv,.slice a2 m.pub.length Q,(O q),.pointer (J (U q 9)),u_,u_,u_,u_,u_,u_,u_,u_,u_,u_,u_,u_,u_,u_,u_,u_,u_,u_,u_,u_,u_,u_,u_,u_,u_],defers:=[]} (Y2.setCell (U q 9) (.slice a2 m.pub.length Q)):=by
   intro a2 Q Y2 ae ai am;refine aK2 _ _ ?_;clear aK2 i g b h63 hby r9 m9;have W:=ze (ae.putPub ai);have y:=ze (am.setCell (p:=(U q 9)) HQ (.slice a2 m.pub.length Q));generalize(Y2.setCell (U q 9) (.slice a2 m.pub.length Q))=X3 at*;obtain⟨r7,r8,r9,r,t,u,L⟩:=W.rest;obtain⟨m7,m8,m9,l,o,H,K⟩:=(HM.later y).rest;have i:=W.lt;have g:=(HM.later y).lt;have b:=ze ((HM.later y.drew).grow);have h63:m.gone.length<=maxLen:=(by simp only[maxLen];omega);have hby:m.gone.length*24<=140737488355328:=(by omega);clear r7 r8 r9 t u L m7 m8 m9 o H K;go_wp2_with fail;rename_i K3 aK3;have ar:∀(a3:Option Addr) (X:Nat) (Y3:S),Hid (zR w.1.size Y3 q {(⟨m.c,0,[],[],[],[],m.epoch,0⟩:RM)with now:=m.now,picks:=m.picks,nu:=m.nu,pub:=m.pub} tq (.slice a1 m.nu.length P) (.slice a2 m.pub.length Q) (.slice D 0 0) (.slice D 0 0))->Hid (Y3.ownsRow w.1.size 287 3 (.slice a3 m.gone.length X) m.gone.length (m.gone.flatMap sgV))->Hid (B_ w Y3)->Hid (∀k,(Value.slice a2 m.pub.length Q).ownBlock=J k->¬(Value.slice a3 m.gone.length X).ownBlock=J k)->K3 {tmps:=#[(O p),u_,.pointer D,(O q),(O p),(O p),(O p),.agg #[I m.c.s,I m.c.le,I m.c.la,I m.c.wi,I m.c.ke,I m.c.qu,.slice a m.c.n cap],(O p),(O p),.pointer (J (U p 12)),I m.epoch,(O q),(O q),(O p),(O p),.pointer (J (U p 7)),I m.now,(O q),.pointer (J (U q 7)),(O q),(O p),(O p),.pointer (J (U p 13)),I m.picks,(O q),.pointer (J (U q 13)),(O q),(O q),(O q),.pointer (J (U q 8)),.slice D 0 0,(O p),(O p),.pointer (J (U p 8)),nv,.slice a1 m.nu.length P,(O q),.pointer (J (U q 8)),(O q),(O q),(O q),.pointer (J (U q 9)),.slice D 0 0,(O p),(O p),.pointer (J (U p 9)),pv,.slice a2 m.pub.length Q,(O q),.pointer (J (U q 9)),(O q),(O q),(O q),.pointer (J (U q 10)),.slice D 0 0,(O p),(O p),.pointer (J (U p 10)),gv,.slice a3 m.gone.length X,(O q),.pointer (J (U q 10)),u_,u_,u_,u_,u_,u_,u_,u_,u_,u_,u_,u_,u_],defers:=[]} (Y3.setCell (U q 10) (.slice a3 m.gone.length X)):=by
    intro a3 X Y3 af aj an a5;refine aK3 _ _ ?_;clear aK3 i g b h63 hby r l;have a8:=ze (af.putGone aj);have z:=ze (an.setCell (p:=(U q 10)) HQ (.slice a3 m.gone.length X));generalize(Y3.setCell (U q 10) (.slice a3 m.gone.length X))=X4 at*;obtain⟨r7,r8,r9,r,t,u,L⟩:=a8.rest;obtain⟨m7,m8,m9,l,o,H,K⟩:=(HM.later z).rest;have i:=a8.lt;have g:=(HM.later z).lt;have b:=ze ((HM.later z.drew).krow);have h63:m.tg.length<=maxLen:=(by simp only[maxLen];omega);have hby:m.tg.length*88<=140737488355328:=(by omega);clear r7 r8 r9 r u L m7 m8 m9 l H K;go_wp2_with fail;rename_i K4 aK4;have au:∀(a4:Option Addr) (c4:Nat) (Y4:S),Hid (zR w.1.size Y4 q {(⟨m.c,0,[],[],[],[],m.epoch,0⟩:RM)with now:=m.now,picks:=m.picks,nu:=m.nu,pub:=m.pub,gone:=m.gone} tq (.slice a1 m.nu.length P) (.slice a2 m.pub.length Q) (.slice a3 m.gone.length X) (.slice D 0 0))->Hid (Y4.ownsRow w.1.size 294 11 (.slice a4 m.tg.length c4) m.tg.length (m.tg.flatMap tkV))->Hid (B_ w Y4)->K4 {tmps:=#[(O p),u_,.pointer D,(O q),(O p),(O p),(O p),.agg #[I m.c.s,I m.c.le,I m.c.la,I m.c.wi,I m.c.ke,I m.c.qu,.slice a m.c.n cap],(O p),(O p),.pointer (J (U p 12)),I m.epoch,(O q),(O q),(O p),(O p),.pointer (J (U p 7)),I m.now,(O q),.pointer (J (U q 7)),(O q),(O p),(O p),.pointer (J (U p 13)),I m.picks,(O q),.pointer (J (U q 13)),(O q),(O q),(O q),.pointer (J (U q 8)),.slice D 0 0,(O p),(O p),.pointer (J (U p 8)),nv,.slice a1 m.nu.length P,(O q),.pointer (J (U q 8)),(O q),(O q),(O q),.pointer (J (U q 9)),.slice D 0 0,(O p),(O p),.pointer (J (U p 9)),pv,.slice a2 m.pub.length Q,(O q),.pointer (J (U q 9)),(O q),(O q),(O q),.pointer (J (U q 10)),.slice D 0 0,(O p),(O p),.pointer (J (U p 10)),gv,.slice a3 m.gone.length X,(O q),.pointer (J (U q 10)),(O q),(O q),(O q),.pointer (J (U q 11)),.slice D 0 0,(O p),(O p),.pointer (J (U p 11)),kv,.slice a4 m.tg.length c4,(O q),.pointer (J (U q 11)),u_],defers:=[]} (Y4.setCell (U q 11) (.slice a4 m.tg.length c4)):=by
     intro a4 c4 Y4 ag ak ao;refine aK4 _ _ ?_;clear aK4 i g b h63 hby t o;have aw:=ze (ag.setTasks ak);have ax:=ze (ao.setCell (p:=(U q 11)) HQ (.slice a4 m.tg.length c4));generalize(Y4.setCell (U q 11) (.slice a4 m.tg.length c4))=X5 at*;go_wp2_with fail;go_ret;exact⟨q,rfl,⟨_,_,_,_,_,aw,ax,a5⟩⟩
    clear aK4;go_region_law (refine yE rfl (.tmp 67) (.tmp 71) 226 rfl 294 _ 11 88 underlying226 Tryz.infoTask rfl (by decide) B kv m.tg.length (m.tg.flatMap tkV) (by simp[Act.eval]) (by simp[Act.eval]) (ud b) (jT Y9 _) h63 hby ?_;intro a4 c4 Y4 aA F;have ac:B_ X4 Y4:=⟨F.os,F.tape,F.output,F.size,F.block⟩;clear F;have ag:=ze (a8.later ac);have ak:=ze (ZO (base':=w.1.size) aA z.size);have ao:=ze (z.trans (ac.mono z.size));clear aA;have rf:∀j,Y4.frozen? (U q j)=false:=(fun j=>zI ag.head j);have yq:=(ac.cell (p:=(U q 11)) i).trans t;have yp:=(ac.cell (p:=(U p 11)) g).trans o;clear ac)
    all_goals exact au _ _ _ ag ak ao
   clear aK3;go_region_law (refine yE rfl (.tmp 55) (.tmp 59) 225 rfl 287 _ 3 24 underlying225 Tryz.infoSegment rfl (by decide) B gv m.gone.length (m.gone.flatMap sgV) (by simp[Act.eval]) (by simp[Act.eval]) (ud b) (jT zaI _) h63 hby ?_;intro a3 X Y3 av E;have ab:B_ X3 Y3:=⟨E.os,E.tape,E.output,E.size,E.block⟩;clear E;have af:=ze (W.later ab);have aj:=ze (ZO (base':=w.1.size) av y.size);have an:=ze (y.trans (ab.mono y.size));have a5:Hid (∀k,(Value.slice a2 m.pub.length Q).ownBlock=J k->¬(Value.slice a3 m.gone.length X).ownBlock=J k):=(fun k e1 e2=>by have z1:=(W.prow.lt k e1).2;have z2:X3.1.size<=k:=(av.lt k e2).1;omega);clear av;have rf:∀j,Y3.frozen? (U q j)=false:=(fun j=>zI af.head j);have yq:=(ab.cell (p:=(U q 10)) i).trans r;have yp:=(ab.cell (p:=(U p 10)) g).trans l;clear ab)
   all_goals exact ar _ _ _ af aj an a5
  clear aK2;go_region_law (refine yE rfl (.tmp 43) (.tmp 47) 225 rfl 287 _ 3 24 underlying225 Tryz.infoSegment rfl (by decide) B pv m.pub.length (m.pub.flatMap sgV) (by simp[Act.eval]) (by simp[Act.eval]) (ud b) (jT zaI _) h63 hby ?_;intro a2 Q Y2 az C;have aa:B_ X2 Y2:=⟨C.os,C.tape,C.output,C.size,C.block⟩;clear C;have ae:=ze (a7.later aa);have ai:=ze (ZO (base':=w.1.size) az x.size);have am:=ze (x.trans (aa.mono x.size));clear az;have rf:∀j,Y2.frozen? (U q j)=false:=(fun j=>zI ae.head j);have yq:=(aa.cell (p:=(U q 9)) i).trans r9;have yp:=(aa.cell (p:=(U p 9)) g).trans m9;clear aa)
  all_goals exact aq _ _ _ ae ai am
 clear aK1;go_region_law (refine yE rfl (.tmp 31) (.tmp 35) 224 rfl 319 _ 3 24 underlying224 Tryz.infoNumber rfl (by decide) B nv m.nu.length (m.nu.flatMap nmV) (by simp[Act.eval]) (by simp[Act.eval]) (ud b) (jT ziN _) h63 hby ?_;intro a1 P Y1 ay A;have a9:B_ X1 Y1:=⟨A.os,A.tape,A.output,A.size,A.block⟩;clear A;have ad:=ze (a6.later a9);have ah:=ze (ZO (base':=w.1.size) ay v.size);have al:=ze (v.trans (a9.mono v.size));clear ay;have rf:∀j,Y1.frozen? (U q j)=false:=(fun j=>zI ad.head j);have yq:=(a9.cell (p:=(U q 8)) i).trans r8;have yp:=(a9.cell (p:=(U p 8)) g).trans m8;clear a9)
 all_goals exact ap _ _ _ ad ah al
