import Derived.Test.YtpbimdkclnekeaaGreatVRef7
import Derived.Laws.ResultCell
open Go.Value renaming int → I
open Go.IntKind renaming i64 → J
open Option renaming none → O
open Option renaming some → E
open Go.IntKind renaming i32 → U
open Nat renaming le_refl → Y
open Go.RowKit renaming Below → Z
open Go.RowKit.Below renaming refl → N
open Nat renaming lt_of_lt_of_le → S
open Go renaming World → D
set_option linter.unusedVariables false
set_option maxHeartbeats 4000000
open Go.Proofs.Tryz
namespace Go.Proofs.YtpbimdkclnekeaaGreat
open Go.RowKit
theorem zj{P:Program}{fn:Func}{p u:Tmp}{a:TypeId}(h:fn.results=#[.cell p a,.tmp u])(tmps:Array Value)(w:D)(g:Nat)(t:TypeId)(cs:Array Value)(b:Nat×Nat)(d:TypeDesc)(x:Value)
  (i:tmps.getD p undef=.pointer (E ⟨g,0,O⟩)) (k:tmps.getD u undef=x) (e:w.1[g]?=E (.cells cs t b))
  (j:P.underlying a=E d) (c:(match d with| .struct _| .array _ _=>true|_=>false)=true) (f:(P.info? a).map (·.size)=E cs.size):
  (results fn tmps).run P w=.ok (.tuple #[.agg cs,x]) w:=by
 rw[results_cell_tmp h,i,k]
 simp[asAddr,run_loadVar_row w g t a cs b d e j c f,Result.andThen]
def RM.query(m:RM)(t se we:Int):Cl×Int:=
 if t< -1\/m.c.n<=t\/se<0\/4<=se\/we<0\/100000<we then(⟨0,0,0,0⟩,2)
 else if m.now-m.c.la<m.c.end ⟨t,se,we⟩then(⟨0,0,0,0⟩,9)
 else if(xn m.c ⟨t,se,we⟩ m.nu).cnt=0 then(⟨0,0,0,0⟩,10)
 else if(⟨t,se,we⟩:Sg)∈m.gone then(⟨0,0,0,0⟩,12)
 else if 0<=t/\¬(⟨t,se,we⟩:Sg)∈m.pub then(⟨0,0,0,0⟩,11)
 else(xn m.c ⟨t,se,we⟩ m.nu,0)
theorem vg{m:RM}{t se we:Int}(h:t< -1\/m.c.n<=t\/se<0\/4<=se\/we<0\/100000<we):m.query t se we=(⟨0,0,0,0⟩,2):=by simp[RM.query,h]
theorem KG{m:RM}{t se we:Int}(h:¬(t< -1\/m.c.n<=t\/se<0\/4<=se\/we<0\/100000<we))(a:m.now-m.c.la<m.c.end ⟨t,se,we⟩):m.query t se we=(⟨0,0,0,0⟩,9):=by
 unfold RM.query;rw[if_neg h,if_pos a]
theorem Yt{m:RM}{t se we:Int}(h:¬(t< -1\/m.c.n<=t\/se<0\/4<=se\/we<0\/100000<we))(a:¬m.now-m.c.la<m.c.end ⟨t,se,we⟩)(b:(xn m.c ⟨t,se,we⟩ m.nu).cnt=0):m.query t se we=(⟨0,0,0,0⟩,10):=by
 unfold RM.query;rw[if_neg h,if_neg a,if_pos b]
theorem KF{m:RM}{t se we:Int}(h:¬(t< -1\/m.c.n<=t\/se<0\/4<=se\/we<0\/100000<we))(a:¬m.now-m.c.la<m.c.end ⟨t,se,we⟩)(b:¬(xn m.c ⟨t,se,we⟩ m.nu).cnt=0)(d:(⟨t,se,we⟩:Sg)∈m.gone):m.query t se we=(⟨0,0,0,0⟩,12):=by
 unfold RM.query;rw[if_neg h,if_neg a,if_neg b,if_pos d]
theorem KH{m:RM}{t se we:Int}(h:¬(t< -1\/m.c.n<=t\/se<0\/4<=se\/we<0\/100000<we))(a:¬m.now-m.c.la<m.c.end ⟨t,se,we⟩)(b:¬(xn m.c ⟨t,se,we⟩ m.nu).cnt=0)(d:¬(⟨t,se,we⟩:Sg)∈m.gone)(e:0<=t/\¬(⟨t,se,we⟩:Sg)∈m.pub):m.query t se we=(⟨0,0,0,0⟩,11):=by
 unfold RM.query;rw[if_neg h,if_neg a,if_neg b,if_neg d,if_pos e]
theorem VA{m:RM}{t se we:Int}(h:¬(t< -1\/m.c.n<=t\/se<0\/4<=se\/we<0\/100000<we))(a:¬m.now-m.c.la<m.c.end ⟨t,se,we⟩)(b:¬(xn m.c ⟨t,se,we⟩ m.nu).cnt=0)(d:¬(⟨t,se,we⟩:Sg)∈m.gone)(e:¬(0<=t/\¬(⟨t,se,we⟩:Sg)∈m.pub)):m.query t se we=(xn m.c ⟨t,se,we⟩ m.nu,0):=by
 unfold RM.query;rw[if_neg h,if_neg a,if_neg b,if_neg d,if_neg e]
def clV(A:Cl):Value:=.agg #[I J A.cnt,I J A.sum,I U A.mn,I U A.mx]
theorem qA{m:RM}{t se we:Int}{A:Cl}{x:Int}(h:m.query t se we=(A,x)):Ending.returned (.tuple #[.agg #[I J A.cnt,I J A.sum,I U A.mn,I U A.mx],I J x])=.returned (.tuple #[clV (m.query t se we).1,I J (m.query t se we).2]):=by rw[h];rfl
theorem KJ{B:Nat}{w:D}{p:Nat}{m:RM}{tv nv pv gv kv:Value}(h:zJ B w p m tv nv pv gv kv)(hc:m.c.ok)(aA:m.nu.length<=1000000000)(aL:m.gone.length<=1000000000000)(aV:m.pub.length<=1000000000000)(aj:∀x∈m.nu,x.ok)(aJ:0<=m.now/\m.now<=100000)(t se we:Int):
  Calls prog 107 #[.pointer (E ⟨p,0,O⟩),I J t,I J se,I J we] w fun e w'=>e=.returned (.tuple #[clV (m.query t se we).1,I J (m.query t se we).2])/\Z w.1.size w w':=by
 have H:=ze h
 have b1:=zo w (.cells #[I J 0,I J 0,I U 0,I U 0] 114)
 have C:Z w.1.size w (w.alloc (.cells #[I J 0,I J 0,I U 0,I U 0] 114)):=(N _ _).alloc (Y _) _
 have hp:=h.lt
 obtain⟨aK,ct,aD⟩:=zq h.trow
 subst aD
 obtain⟨c0,c1,c2,c3,c4,c5,c6⟩:=h.conf
 clear c0 c1 c3 c4 c5
 obtain⟨r7,r8,r9,a8,a9,aa,ab⟩:=h.rest
 clear r8 r9 a8 a9 aa ab
 have B1:=ze b1
 clear h b1
 by_cases g:t< -1
 ·have i:=ze (vg (m:=m) (t:=t) (se:=se) (we:=we) (.inl g))
  go_enter func107,ntmps107
  go_wp2_with fail
  refine bodyPost_ret (v:=.tuple #[.agg #[I J 0,I J 0,I U 0,I U 0],I J 2]) (zj results107 _ _ w.1.size _ _ _ _ _ rfl rfl (zo w _) underlying114 rfl (by kernel_rfl)) rfl ⟨qA (ud i),C⟩
 have aM:=g
 clear g
 by_cases g:(m.c.n:Int)<=t
 ·have i:=ze (vg (m:=m) (t:=t) (se:=se) (we:=we) (.inr (.inl g)))
  go_enter func107,ntmps107
  go_wp2_with fail
  refine bodyPost_ret (v:=.tuple #[.agg #[I J 0,I J 0,I U 0,I U 0],I J 2]) (zj results107 _ _ w.1.size _ _ _ _ _ rfl rfl (zo w _) underlying114 rfl (by kernel_rfl)) rfl ⟨qA (ud i),C⟩
 have aN:=g
 clear g
 by_cases g:se<0
 ·have i:=ze (vg (m:=m) (t:=t) (se:=se) (we:=we) (.inr (.inr (.inl g))))
  go_enter func107,ntmps107
  go_wp2_with fail
  refine bodyPost_ret (v:=.tuple #[.agg #[I J 0,I J 0,I U 0,I U 0],I J 2]) (zj results107 _ _ w.1.size _ _ _ _ _ rfl rfl (zo w _) underlying114 rfl (by kernel_rfl)) rfl ⟨qA (ud i),C⟩
 have aO:=g
 clear g
 by_cases g:4<=se
 ·have i:=ze (vg (m:=m) (t:=t) (se:=se) (we:=we) (.inr (.inr (.inr (.inl g)))))
  go_enter func107,ntmps107
  go_wp2_with fail
  refine bodyPost_ret (v:=.tuple #[.agg #[I J 0,I J 0,I U 0,I U 0],I J 2]) (zj results107 _ _ w.1.size _ _ _ _ _ rfl rfl (zo w _) underlying114 rfl (by kernel_rfl)) rfl ⟨qA (ud i),C⟩
 have aP:=g
 clear g
 by_cases g:we<0
 ·have i:=ze (vg (m:=m) (t:=t) (se:=se) (we:=we) (.inr (.inr (.inr (.inr (.inl g))))))
  go_enter func107,ntmps107
  go_wp2_with fail
  refine bodyPost_ret (v:=.tuple #[.agg #[I J 0,I J 0,I U 0,I U 0],I J 2]) (zj results107 _ _ w.1.size _ _ _ _ _ rfl rfl (zo w _) underlying114 rfl (by kernel_rfl)) rfl ⟨qA (ud i),C⟩
 have aQ:=g
 clear g
 by_cases g:100000<we
 ·have i:=ze (vg (m:=m) (t:=t) (se:=se) (we:=we) (.inr (.inr (.inr (.inr (.inr g))))))
  go_enter func107,ntmps107
  go_wp2_with fail
  refine bodyPost_ret (v:=.tuple #[.agg #[I J 0,I J 0,I U 0,I U 0],I J 2]) (zj results107 _ _ w.1.size _ _ _ _ _ rfl rfl (zo w _) underlying114 rfl (by kernel_rfl)) rfl ⟨qA (ud i),C⟩
 have aR:=g
 clear g
 have a5:¬(t< -1\/m.c.n<=t\/se<0\/4<=se\/we<0\/100000<we):=by omega
 have L:=ze a5
 clear a5
 obtain⟨b0,b1,a,bz⟩:=box2 w (.cells #[I J 0,I J 0,I U 0,I U 0] 114) (.cells #[I J t,I J se,I J we] 232)
 have a6: -1<=t:=by omega
 have a7:t<m.c.n:=by omega
 have am:0<=we:=by omega
 have an:we<=100000:=by omega
 have aS:=hc.la
 have ae:=ze (Vb ((ud H).later a) hc ⟨t,se,we⟩ a6 a7 am an)
 have ay:=hc.ends (s:=⟨t,se,we⟩) a6 a7 am an
 obtain⟨aH,aI⟩:=ay
 obtain⟨sg,aC⟩:∃sg:Sg,sg=⟨t,se,we⟩:=⟨_,rfl⟩
 have B0:=ze b0
 have B1:=ze b1
 have BZ:=ze bz
 clear b0 b1 bz
 go_enter func107,ntmps107
 go_wp2_with fail
 generalize hW:((w.alloc (.cells #[I J 0,I J 0,I U 0,I U 0] 114)).alloc (.cells #[I J t,I J se,I J we] 232))=W at*
 refine(ud ae).mono ?_
 rintro e w1 ⟨rfl,R⟩
 have aW:=hp
 have d2:w1.cell? ⟨p,2,O⟩=E (I J m.c.la):=((a.trans (R.mono a.size)).cell (p:=⟨p,2,O⟩) hp).trans c2
 have d7:w1.cell? ⟨p,7,O⟩=E (I J m.now):=((a.trans (R.mono a.size)).cell (p:=⟨p,7,O⟩) hp).trans r7
 have aT:p<w1.1.size:=S hp (a.trans (R.mono a.size)).size
 have G:Nonempty (zm w1.1.size w1):=zm.some _ _
 have F:=fun(u:zm w1.1.size w1) b o h=>u.cell b o h
 have M:=ze R
 clear c2 r7 c6 R aC sg
 by_cases ho:m.now-m.c.la<m.c.end ⟨t,se,we⟩
 ·have i:=ze (KG (ud L) ho)
  go_wp2_with fail
  refine zh w1.1.size (by kernel_rfl) (by kernel_rfl) ?_
  repeat(go_big_quiet_step (fail))
  refine wpQuiet_nil ?_
  rintro⟨w2,a1⟩
  dsimp only
  clear F G
  have r:=ze ((ud M).trans (a1.mono (ud M).size))
  have d:=((ud r).block w.1.size (by have:=ud BZ;omega)).trans (ud B0)
  obtain⟨f0,f1,f2,f3,-⟩:=zc d
  have ff:∀j,w2.frozen? ⟨w.1.size,j,O⟩=false:=fun j=>zD d j
  have V:w.1.size<w2.1.size:=zd d
  have Q:=ze d
  clear d
  go_wp2_with fail
  have T:=zjQ (ud Q) (I J 0) (I J 0) (I U 0) (I U 0)
  refine bodyPost_ret (v:=.tuple #[.agg #[I J 0,I J 0,I U 0,I U 0],I J 9]) (zj results107 _ _ w.1.size _ _ _ _ _ rfl rfl T underlying114 rfl (by kernel_rfl)) rfl ⟨qA (ud i),?_⟩
  refine(a.trans ((ud r).mono a.size)).trans ?_
  repeat(refine qe ?_ (Y _))
  exact N _ _
 ·go_wp2_with fail
  refine zh w1.1.size (by kernel_rfl) (by kernel_rfl) ?_
  repeat(go_big_quiet_step (fail))
  refine wpQuiet_nil ?_
  rintro⟨w2,a1⟩
  dsimp only
  clear F G
  have a0:=ze ((ud M).trans (a1.mono (ud M).size))
  have q:=((ud a0).block (w.1.size+1) (by have:=ud BZ;omega)).trans (ud B1)
  obtain⟨s0,s1,s2,-⟩:=zc q
  have k:=a.trans ((ud a0).mono a.size)
  have ad:=ze (zbC ((ud H).later k) hc aA aj ⟨t,se,we⟩ a6 a7)
  clear q d2 d7 a1 M
  go_wp2_with fail
  refine(ud ad).mono ?_
  rintro e w3 ⟨rfl,a2⟩
  have ai:∀o,Z w2.1.size w2 (w3.alloc o):=fun o=>a2.alloc a2.size o
  have ao:∀o,(w3.alloc o).1[w3.1.size]?=E o:=fun o=>zo w3 o
  have aq:∀o,w3.1.size<(w3.alloc o).1.size:=fun o=>by rw[zF];omega
  have ax:=kb (c:=m.c) (s:=⟨t,se,we⟩) (nu:=m.nu) aj
  have y:Hid (∀A,A=xn m.c ⟨t,se,we⟩ m.nu->(A.cnt=0->m.query t se we=(⟨0,0,0,0⟩,10))/\(¬A.cnt=0->(⟨t,se,we⟩:Sg)∈m.gone->m.query t se we=(⟨0,0,0,0⟩,12))/\(¬A.cnt=0->¬(⟨t,se,we⟩:Sg)∈m.gone->(0<=t/\¬(⟨t,se,we⟩:Sg)∈m.pub)->m.query t se we=(⟨0,0,0,0⟩,11))/\(¬A.cnt=0->¬(⟨t,se,we⟩:Sg)∈m.gone->¬(0<=t/\¬(⟨t,se,we⟩:Sg)∈m.pub)->m.query t se we=(A,0))):=fun A hA=>by
   subst hA
   exact⟨Yt (ud L) (by omega),KF (ud L) (by omega),KH (ud L) (by omega),VA (ud L) (by omega)⟩
  have y:=ze (ud y _ rfl)
  have aX:p<w3.1.size:=S hp (k.trans (a2.mono k.size)).size
  generalize xn m.c ⟨t,se,we⟩ m.nu=A at*
  obtain⟨aF,aG,-⟩:=ax
  go_wp2_with fail
  have av:=ze (ao (.cells #[I J A.cnt,I J A.sum,I U A.mn,I U A.mx] 114))
  have ac:=ze (ai (.cells #[I J A.cnt,I J A.sum,I U A.mn,I U A.mx] 114))
  have aw:=ze (aq (.cells #[I J A.cnt,I J A.sum,I U A.mn,I U A.mx] 114))
  clear ao ai aq s0 s1 s2
  generalize hX:(w3.alloc (.cells #[I J A.cnt,I J A.sum,I U A.mn,I U A.mx] 114))=X at*
  clear hX
  have af:Z w.1.size w X:=k.trans ((ud ac).mono k.size)
  have P:=ze ((ud a0).trans ((ud ac).mono (ud a0).size))
  have q:=((ud P).block (w.1.size+1) (by have:=ud BZ;omega)).trans (ud B1)
  obtain⟨s0,s1,s2,-⟩:=zc q
  have a3:w.1.size+1<X.1.size:=zd q
  have z:=ze ((ud H).later af)
  obtain⟨r7,r8,r9,a8,a9,aa,ab⟩:=(ud z).rest
  have ak:=(ud z).lt
  obtain⟨ag,cg,az⟩:=zq (ud z).grow
  subst az
  obtain⟨ap,cp,aB⟩:=zq (ud z).prow
  subst aB
  have ar:=ze (fun(u:zm X.1.size X)=>xT B m.gone _ ⟨t,se,we⟩ u.1 (by omega) ((ud z).later u.2).grow)
  have au:=ze (fun(K:D) (f:Z X.1.size X K) (u:zm K.1.size K)=>xT B m.pub _ ⟨t,se,we⟩ u.1 (by omega) ((ud z).later (f.trans (u.2.mono f.size))).prow)
  have G:Nonempty (zm X.1.size X):=zm.some _ _
  have F:=fun(u:zm X.1.size X) b o h=>u.cell b o h
  clear q r7 r8 a9 aa ab a2 ad k
  refine zh X.1.size (by kernel_rfl) (by kernel_rfl) ?_
  repeat(go_big_quiet_step (first|(go_at_call 159;exact Calls.later (Y _) (ud ar _))))
  refine wpQuiet_nil ?_
  rintro⟨K,f⟩
  dsimp only
  clear F G
  have y9:=(f.cell (p:=⟨p,9,O⟩) ak).trans r9
  have y0:=(f.cell (p:=⟨w.1.size+1,0,O⟩) a3).trans s0
  have y1:=(f.cell (p:=⟨w.1.size+1,1,O⟩) a3).trans s1
  have y2:=(f.cell (p:=⟨w.1.size+1,2,O⟩) a3).trans s2
  have aU:p<K.1.size:=S ak f.size
  have aY:w.1.size+1<K.1.size:=S a3 f.size
  have G:Nonempty (zm K.1.size K):=zm.some _ _
  have F:=fun(u:zm K.1.size K) b o h=>u.cell b o h
  go_wp2_with fail
  refine zh K.1.size (by kernel_rfl) (by kernel_rfl) ?_
  repeat(go_big_quiet_step (first|(go_at_call 159;exact Calls.later (Y _) (ud au K f _))))
  refine wpQuiet_nil ?_
  rintro⟨w5,ah⟩
  dsimp only
  clear F G
  have a4:Z X.1.size X w5:=f.trans (ah.mono f.size)
  have r:=ze ((ud P).trans (a4.mono (ud P).size))
  have qa:=(a4.block w3.1.size (ud aw)).trans (ud av)
  obtain⟨g0,g1,g2,g3,-⟩:=zc qa
  clear qa y0 y1 y2 y9 s0 s1 s2 r9 a8 f ah
  by_cases hz:A.cnt=0
  ·have i:=ze ((ud y).1 hz)
   have aE:(A.cnt==0)=true:=by simp[hz]
   clear hz
   have d:=((ud r).block w.1.size (by have:=ud BZ;omega)).trans (ud B0)
   obtain⟨f0,f1,f2,f3,-⟩:=zc d
   have ff:∀j,w5.frozen? ⟨w.1.size,j,O⟩=false:=fun j=>zD d j
   have V:w.1.size<w5.1.size:=zd d
   have Q:=ze d
   clear d
   go_wp2_with fail
   have T:=zjQ (ud Q) (I J 0) (I J 0) (I U 0) (I U 0)
   refine bodyPost_ret (v:=.tuple #[.agg #[I J 0,I J 0,I U 0,I U 0],I J 10]) (zj results107 _ _ w.1.size _ _ _ _ _ rfl rfl T underlying114 rfl (by kernel_rfl)) rfl ⟨qA (ud i),?_⟩
   refine(a.trans ((ud r).mono a.size)).trans ?_
   repeat(refine qe ?_ (Y _))
   exact N _ _
  ·have aE:(A.cnt==0)=false:=by simp[hz]
   rcases kL ⟨t,se,we⟩ m.gone with⟨hm,l⟩|⟨hm,l⟩
   ·have i:=ze ((ud y).2.1 hz l)
    rw[hm]
    clear hz hm l
    have d:=((ud r).block w.1.size (by have:=ud BZ;omega)).trans (ud B0)
    obtain⟨f0,f1,f2,f3,-⟩:=zc d
    have ff:∀j,w5.frozen? ⟨w.1.size,j,O⟩=false:=fun j=>zD d j
    have V:w.1.size<w5.1.size:=zd d
    have Q:=ze d
    clear d
    go_wp2_with fail
    have T:=zjQ (ud Q) (I J 0) (I J 0) (I U 0) (I U 0)
    refine bodyPost_ret (v:=.tuple #[.agg #[I J 0,I J 0,I U 0,I U 0],I J 12]) (zj results107 _ _ w.1.size _ _ _ _ _ rfl rfl T underlying114 rfl (by kernel_rfl)) rfl ⟨qA (ud i),?_⟩
    refine(a.trans ((ud r).mono a.size)).trans ?_
    repeat(refine qe ?_ (Y _))
    exact N _ _
   ·by_cases hw:0<=t/\¬(⟨t,se,we⟩:Sg)∈m.pub
    ·have i:=ze ((ud y).2.2.1 hz l hw)
     rw[hm,XL hw.2]
     have al:=hw.1
     clear hz hm l hw
     have d:=((ud r).block w.1.size (by have:=ud BZ;omega)).trans (ud B0)
     obtain⟨f0,f1,f2,f3,-⟩:=zc d
     have ff:∀j,w5.frozen? ⟨w.1.size,j,O⟩=false:=fun j=>zD d j
     have V:w.1.size<w5.1.size:=zd d
     have Q:=ze d
     clear d
     go_wp2_with fail
     have T:=zjQ (ud Q) (I J 0) (I J 0) (I U 0) (I U 0)
     refine bodyPost_ret (v:=.tuple #[.agg #[I J 0,I J 0,I U 0,I U 0],I J 11]) (zj results107 _ _ w.1.size _ _ _ _ _ rfl rfl T underlying114 rfl (by kernel_rfl)) rfl ⟨qA (ud i),?_⟩
     refine(a.trans ((ud r).mono a.size)).trans ?_
     repeat(refine qe ?_ (Y _))
     exact N _ _
    ·have i:=ze ((ud y).2.2.2 hz l hw)
     rw[hm]
     clear hz l hm
     by_cases al:0<=t
     ·rw[vf (Classical.not_not.1 (fun h=>hw ⟨al,h⟩))]
      clear hw
      have d:=((ud r).block w.1.size (by have:=ud BZ;omega)).trans (ud B0)
      obtain⟨f0,f1,f2,f3,-⟩:=zc d
      have ff:∀j,w5.frozen? ⟨w.1.size,j,O⟩=false:=fun j=>zD d j
      have V:w.1.size<w5.1.size:=zd d
      have Q:=ze d
      clear d
      go_wp2_with fail
      have T:=zjQ (ud Q) (I J A.cnt) (I J A.sum) (I U A.mn) (I U A.mx)
      refine bodyPost_ret (v:=.tuple #[.agg #[I J A.cnt,I J A.sum,I U A.mn,I U A.mx],I J 0]) (zj results107 _ _ w.1.size _ _ _ _ _ rfl rfl T underlying114 rfl (by kernel_rfl)) rfl ⟨qA (ud i),?_⟩
      refine(a.trans ((ud r).mono a.size)).trans ?_
      repeat(refine qe ?_ (Y _))
      exact N _ _
     ·clear hw
      have d:=((ud r).block w.1.size (by have:=ud BZ;omega)).trans (ud B0)
      obtain⟨f0,f1,f2,f3,-⟩:=zc d
      have ff:∀j,w5.frozen? ⟨w.1.size,j,O⟩=false:=fun j=>zD d j
      have V:w.1.size<w5.1.size:=zd d
      have Q:=ze d
      clear d
      go_wp2_with fail
      have T:=zjQ (ud Q) (I J A.cnt) (I J A.sum) (I U A.mn) (I U A.mx)
      refine bodyPost_ret (v:=.tuple #[.agg #[I J A.cnt,I J A.sum,I U A.mn,I U A.mx],I J 0]) (zj results107 _ _ w.1.size _ _ _ _ _ rfl rfl T underlying114 rfl (by kernel_rfl)) rfl ⟨qA (ud i),?_⟩
      refine(a.trans ((ud r).mono a.size)).trans ?_
      repeat(refine qe ?_ (Y _))
      exact N _ _
def onB(c:Cf)(a b:Sg):Bool:=if a.t= -1\/c.F a.t.toNat≠b.t\/a.se≠b.se then false else(b.we*c.wh b.t/c.wh a.t==a.we)
theorem on_1{c:Cf}{a b:Sg}(h:a.t= -1):onB c a b=false:=by simp[onB,h]
theorem on_2{c:Cf}{a b:Sg}(h:c.F a.t.toNat≠b.t):onB c a b=false:=by simp[onB,h]
theorem on_3{c:Cf}{a b:Sg}(h:a.se≠b.se):onB c a b=false:=by simp[onB,h]
theorem on_4{c:Cf}{a b:Sg}(d:¬a.t= -1)(e:c.F a.t.toNat=b.t)(f:a.se=b.se):onB c a b=(b.we*c.wh b.t/c.wh a.t==a.we):=by
 unfold onB;rw[if_neg];rintro(h|h|h)
 ·exact d h
 ·exact h e
 ·exact h f
theorem zcd{B:Nat}{w:D}{p:Nat}{m:RM}{tv nv pv gv kv:Value}(h:zJ B w p m tv nv pv gv kv)(hc:m.c.ok)(a b:Sg)(V: -1<=a.t)(X:a.t<m.c.n)(d: -1<=b.t)(x:b.t<m.c.n)(a3:0<=b.we)(a4:b.we<=100000):
  Calls prog 231 #[.pointer (E ⟨p,0,O⟩),.agg #[I J a.t,I J a.se,I J a.we],.agg #[I J b.t,I J b.se,I J b.we]] w fun e w'=>e=.returned (.bool (onB m.c a b))/\Z w.1.size w w':=by
 obtain⟨av,cap,aj⟩:=zq h.trow
 subst aj
 have a5:=hc.n4
 have hp:=h.lt
 have a7:=TS.of_owns h.trow
 obtain⟨y0,y1,A,yz⟩:=box2 w (.cells #[I J a.t,I J a.se,I J a.we] 232) (.cells #[I J b.t,I J b.se,I J b.we] 232)
 have hr:=h.later A
 have H:=ze h
 obtain⟨c0,c1,c2,c3,c4,c5,c6⟩:=hr.conf
 have G:=a7.below A
 clear h hr
 go_enter func231,ntmps231
 go_wp2_with fail
 generalize hW:((w.alloc (.cells #[I J a.t,I J a.se,I J a.we] 232)).alloc (.cells #[I J b.t,I J b.se,I J b.we] 232))=W at*
 clear hW
 have f:p<W.1.size:=by omega
 have a8:w.1.size<W.1.size:=by omega
 have a9:w.1.size+1<W.1.size:=by omega
 obtain⟨a0,a1,a2,-⟩:=zc y0
 obtain⟨b0,b1,b2,-⟩:=zc y1
 have YZ:=ze yz
 have l:=ze A
 have L:=ze G
 clear y0 y1 yz A G a7
 have k:Nonempty (zm W.1.size W):=zm.some _ _
 have j:=fun(u:zm W.1.size W) b o h=>u.cell b o h
 by_cases C:a.t= -1
 ·have HR:=ze (on_1 (c:=m.c) (b:=b) C)
  have T:(a.t== -1)=true:=by simp[C]
  clear C
  refine zh W.1.size (by kernel_rfl) (by kernel_rfl) ?_
  repeat(go_big_quiet_step (fail))
  refine wpQuiet_nil ?_
  rintro⟨y,d⟩
  dsimp only
  clear j k
  go_wp2_with fail
  go_ret
  exact⟨zL (ud HR).symm,(ud l).trans (d.mono (ud l).size)⟩
 ·have T:(a.t== -1)=false:=by simp[C]
  obtain⟨i,hi⟩:=Int.eq_ofNat_of_zero_le (show 0<=a.t by omega)
  have ai:i<m.c.n:=by omega
  obtain⟨tb,aa,af,az,a6⟩:=ud L (by omega)
  subst af
  obtain⟨t1,t2,t3⟩:=a6 i ai
  clear a6 t2 t3
  have r:m.c.F a.t.toNat=m.c.F i:=by rw[hi];simp
  have v:a.t=i:=hi
  have aw:(i:Int)<m.c.n:=by omega
  rw[v]at a0 T
  by_cases M:m.c.F i=b.t
  ·have ad:(m.c.F i !=b.t)=false:=by simp[M]
   by_cases R:a.se=b.se
   ·have ae:(a.se !=b.se)=false:=by simp[R]
    obtain⟨aA,aB⟩:=hc.wh V X
    obtain⟨aC,ak⟩:=hc.wh d x
    have HR:=ze (on_4 (c:=m.c) C (by rw[r];exact M) R)
    have ax:0<=b.we*m.c.wh b.t:=Int.mul_nonneg a3 (by omega)
    have ay:b.we*m.c.wh b.t<=100000*1000:=Int.mul_le_mul a4 ak (by omega) (by omega)
    have ar:=ze (show xd m.c.wi m.c.W a.t=m.c.wh a.t from rfl)
    have au:=ze (show xd m.c.wi m.c.W b.t=m.c.wh b.t from rfl)
    have ab:=ze (show∀(u:D),Z W.1.size W u->Calls prog 101 #[.agg #[I J m.c.s,I J m.c.le,I J m.c.la,I J m.c.wi,I J m.c.ke,I J m.c.qu,.slice (E ⟨tb,aa,O⟩) m.c.n cap],I J b.t] u fun e w'=>e=.returned (I J (m.c.wh b.t))/\Z u.1.size u w' from fun u hu=>vH _ _ _ _ _ _ _ _ cap m.c.F m.c.W m.c.K b.t d x a5 u ((ud L).below hu))
    have ac:=ze (show∀(u:D),Z W.1.size W u->Calls prog 101 #[.agg #[I J m.c.s,I J m.c.le,I J m.c.la,I J m.c.wi,I J m.c.ke,I J m.c.qu,.slice (E ⟨tb,aa,O⟩) m.c.n cap],I J i] u fun e w'=>e=.returned (I J (m.c.wh a.t))/\Z u.1.size u w' from fun u hu=>by rw[<-v];exact vH _ _ _ _ _ _ _ _ cap m.c.F m.c.W m.c.K a.t V X a5 u ((ud L).below hu))
    clear C M R r hi v
    refine zh W.1.size (by kernel_rfl) (by kernel_rfl) ?_
    repeat(go_big_quiet_step (fail))
    refine wpQuiet_nil ?_
    rintro⟨y,d⟩
    dsimp only
    clear j k
    have z:=ze d
    have k0:=(d.cell (p:=⟨p,0,O⟩) f).trans c0
    have k1:=(d.cell (p:=⟨p,1,O⟩) f).trans c1
    have k2:=(d.cell (p:=⟨p,2,O⟩) f).trans c2
    have k3:=(d.cell (p:=⟨p,3,O⟩) f).trans c3
    have k4:=(d.cell (p:=⟨p,4,O⟩) f).trans c4
    have k5:=(d.cell (p:=⟨p,5,O⟩) f).trans c5
    have k6:=(d.cell (p:=⟨p,6,O⟩) f).trans c6
    have k7:=(d.cell (p:=⟨w.1.size+1,0,O⟩) a9).trans b0
    have l1:=d.size
    have al:p<y.1.size:=by omega
    have ao:w.1.size+1<y.1.size:=by omega
    have k:Nonempty (zm y.1.size y):=zm.some _ _
    have j:=fun(u:zm y.1.size y) b o h=>u.cell b o h
    go_wp2_with fail
    refine zh y.1.size (by kernel_rfl) (by kernel_rfl) ?_
    repeat(go_big_quiet_step (first|(go_at_call 101;exact Calls.later (Y _) (ud ab _ ((ud z).trans (Below.mono (Subtype.property _) (ud z).size))))))
    refine wpQuiet_nil ?_
    rintro⟨P,x⟩
    dsimp only
    clear j k k7 d
    have g:=ze ((ud z).trans (x.mono (ud z).size))
    have j0:=((ud g).cell (p:=⟨p,0,O⟩) f).trans c0
    have j1:=((ud g).cell (p:=⟨p,1,O⟩) f).trans c1
    have j2:=((ud g).cell (p:=⟨p,2,O⟩) f).trans c2
    have j3:=((ud g).cell (p:=⟨p,3,O⟩) f).trans c3
    have j4:=((ud g).cell (p:=⟨p,4,O⟩) f).trans c4
    have j5:=((ud g).cell (p:=⟨p,5,O⟩) f).trans c5
    have j6:=((ud g).cell (p:=⟨p,6,O⟩) f).trans c6
    have j7:=((ud g).cell (p:=⟨w.1.size,0,O⟩) a8).trans a0
    have l2:=(ud g).size
    have am:p<P.1.size:=by omega
    have ap:w.1.size<P.1.size:=by omega
    have k:Nonempty (zm P.1.size P):=zm.some _ _
    have j:=fun(u:zm P.1.size P) b o h=>u.cell b o h
    clear x
    go_wp2_with fail
    refine zh P.1.size (by kernel_rfl) (by kernel_rfl) ?_
    repeat(go_big_quiet_step (first|(go_at_call 101;exact Calls.later (Y _) (ud ac _ ((ud g).trans (Below.mono (Subtype.property _) (ud g).size))))))
    refine wpQuiet_nil ?_
    rintro⟨Q,ag⟩
    dsimp only
    clear j k j7
    have q:=ze ((ud g).trans (ag.mono (ud g).size))
    have m0:=((ud q).cell (p:=⟨w.1.size,2,O⟩) a8).trans a2
    have m1:=((ud q).cell (p:=⟨w.1.size+1,2,O⟩) a9).trans b2
    have l3:=(ud q).size
    have aq:w.1.size<Q.1.size:=by omega
    have an:w.1.size+1<Q.1.size:=by omega
    have k:Nonempty (zm Q.1.size Q):=zm.some _ _
    have j:=fun(u:zm Q.1.size Q) b o h=>u.cell b o h
    go_wp2_with fail
    refine zh Q.1.size (by kernel_rfl) (by kernel_rfl) ?_
    repeat(go_big_quiet_step (fail))
    refine wpQuiet_nil ?_
    rintro⟨w4,ah⟩
    dsimp only
    clear j k
    go_wp2_with fail
    go_ret
    exact⟨zL (ud HR).symm,(ud l).trans (((ud q).trans (ah.mono (ud q).size)).mono (ud l).size)⟩
   ·have HR:=ze (on_3 (c:=m.c) R)
    have ae:(a.se !=b.se)=true:=by simp[R]
    clear C M R r hi v
    refine zh W.1.size (by kernel_rfl) (by kernel_rfl) ?_
    repeat(go_big_quiet_step (fail))
    refine wpQuiet_nil ?_
    rintro⟨y,d⟩
    dsimp only
    clear j k
    go_wp2_with fail
    go_ret
    exact⟨zL (ud HR).symm,(ud l).trans (d.mono (ud l).size)⟩
  ·have HR:=ze (on_2 (c:=m.c) (a:=a) (b:=b) (by rw[r];exact M))
   have ad:(m.c.F i !=b.t)=true:=by simp[M]
   clear C M r hi v
   refine zh W.1.size (by kernel_rfl) (by kernel_rfl) ?_
   repeat(go_big_quiet_step (fail))
   refine wpQuiet_nil ?_
   rintro⟨y,d⟩
   dsimp only
   clear j k
   go_wp2_with fail
   go_ret
   exact⟨zL (ud HR).symm,(ud l).trans (d.mono (ud l).size)⟩
section
variable {α:Type} (lt:α->α->Bool)
def yN(x:α):List α->List α
 |[]=>[x]
 |y::r=>if lt x y then x::y::r else y::yN x r
def kS(x:α)(l:List α):Bool:=l.any (fun y=>lt x y)
def yt(x:α)(l:List α):List α:=if kS lt x l then yN lt x l else l
theorem Kl{x:α}:∀{l:List α},kS lt x l=false->yN lt x l=l++[x]
 |[],_=>rfl
 |y::l,h=>by
  simp only[kS,List.any_cons,Bool.or_eq_false_iff]at h
  simp[yN,h.1,Kl (l:=l) h.2]
theorem Km{x:α}:∀{l:List α} {y:α},kS lt x l=true->yN lt x (l++[y])=yN lt x l++[y]
 |[],y,h=>by simp[kS]at h
 |z::l,y,h=>by
  rw[List.cons_append,yN,yN]
  by_cases e:lt x z=true
  ·simp[e]
  ·have a:lt x z=false:=by simpa using e
   rw[a]
   simp only[Bool.false_eq_true,if_false,List.cons_append]
   rw[Km (l:=l) (y:=y) (by simpa[kS,a]using h)]
theorem Jp{x:α}:∀{l:List α} {y:α},kS lt x l=false->lt x y=true->yN lt x (l++[y])=l++[x]++[y]
 |[],y,_,a=>by simp[yN,a]
 |z::l,y,h,a=>by
  simp only[kS,List.any_cons,Bool.or_eq_false_iff]at h
  simp only[List.cons_append,yN,h.1,Bool.false_eq_true,if_false]
  rw[Jp (l:=l) (y:=y) h.2 a]
theorem Xw(x:α)(l:List α)(y:α):kS lt x (l++[y])=(kS lt x l||lt x y):=by simp[kS]
theorem zfN{x y:α}{l:List α}(h:kS lt x l=true):yt lt x (l++[y])=yt lt x l++[y]/\kS lt x (l++[y])=true:=by
 have a:kS lt x (l++[y])=true:=by rw[Xw,h];rfl
 exact⟨by simp only[yt,h,a,if_true];exact Km lt h,a⟩
theorem zdx{x y:α}{l:List α}(h:kS lt x l=false)(b:lt x y=true):yt lt x (l++[y])=yt lt x l++[x]++[y]/\kS lt x (l++[y])=true:=by
 have a:kS lt x (l++[y])=true:=by rw[Xw,h,b];rfl
 exact⟨by simp only[yt,h,a,if_true,Bool.false_eq_true,if_false];exact Jp lt h b,a⟩
theorem zdy{x y:α}{l:List α}(h:kS lt x l=false)(b:lt x y=false):yt lt x (l++[y])=yt lt x l++[y]/\kS lt x (l++[y])=false:=by
 have a:kS lt x (l++[y])=false:=by rw[Xw,h,b];rfl
 exact⟨by simp[yt,h,a],a⟩
theorem Ky(x:α)(l:List α):(yt lt x l).length<=l.length+1:=by
 unfold yt
 split
 ·have:∀l:List α,(yN lt x l).length=l.length+1:=fun l=>by
   induction l with
   |nil=>rfl
   |cons y r a=>rw[yN];split<;>simp[a]
  rw[this];omega
 ·omega
end
def xZ(a b:Tk):Bool:=if a.kind≠b.kind then decide (a.kind<b.kind)else if a.s.t≠b.s.t then decide (a.s.t<b.s.t)else if a.s.se≠b.s.se then decide (a.s.se<b.s.se)else decide (a.s.we<b.s.we)
theorem zkP{a b:Tk}(h:¬a.kind=b.kind):xZ a b=decide (a.kind<b.kind):=by simp[xZ,h]
theorem zkQ{a b:Tk}(h:a.kind=b.kind)(c:¬a.s.t=b.s.t):xZ a b=decide (a.s.t<b.s.t):=by simp[xZ,h,c]
theorem zkR{a b:Tk}(h:a.kind=b.kind)(c:a.s.t=b.s.t)(d:¬a.s.se=b.s.se):xZ a b=decide (a.s.se<b.s.se):=by simp[xZ,h,c,d]
theorem zkS{a b:Tk}(h:a.kind=b.kind)(c:a.s.t=b.s.t)(d:a.s.se=b.s.se):xZ a b=decide (a.s.we<b.s.we):=by simp[xZ,h,c,d]
theorem Vn(a b:Tk)(w:D):
  Calls prog 224 #[.agg (tkV a).toArray,.agg (tkV b).toArray] w fun e w'=>e=.returned (.bool (xZ a b))/\Z w.1.size w w':=by
 have h:∀k l,Z w.1.size w ((w.alloc k).alloc l):=fun k l=>((N _ _).alloc (Y _) _).alloc (by simp) _
 have d:=ze h
 clear h
 have i:(tkV a).toArray=#[I J a.kind,I J a.s.t,I J a.s.se,I J a.s.we,I J a.si,I J a.tc,I J a.rest,I J a.ep,I J a.num,I J a.slot,I J a.till]:=rfl
 have j:(tkV b).toArray=#[I J b.kind,I J b.s.t,I J b.s.se,I J b.s.we,I J b.si,I J b.tc,I J b.rest,I J b.ep,I J b.num,I J b.slot,I J b.till]:=rfl
 rw[i,j]
 clear i j
 by_cases c:a.kind=b.kind
 ·have m:(a.kind !=b.kind)=false:=by simp[c]
  by_cases f:a.s.t=b.s.t
  ·have n:(a.s.t !=b.s.t)=false:=by simp[f]
   by_cases g:a.s.se=b.s.se
   ·have o:(a.s.se !=b.s.se)=false:=by simp[g]
    have HR:=ze (zkS c f g)
    clear c f g
    go_enter func224,ntmps224
    go_wp2_with fail
    go_ret
    exact⟨zL (ud HR).symm,ud d _ _⟩
   ·have o:(a.s.se !=b.s.se)=true:=by simp[g]
    have HR:=ze (zkR c f g)
    clear c f g
    go_enter func224,ntmps224
    go_wp2_with fail
    go_ret
    exact⟨zL (ud HR).symm,ud d _ _⟩
  ·have n:(a.s.t !=b.s.t)=true:=by simp[f]
   have HR:=ze (zkQ c f)
   clear c f
   go_enter func224,ntmps224
   go_wp2_with fail
   go_ret
   exact⟨zL (ud HR).symm,ud d _ _⟩
 ·have m:(a.kind !=b.kind)=true:=by simp[c]
  have HR:=ze (zkP c)
  clear c
  go_enter func224,ntmps224
  go_wp2_with fail
  go_ret
  exact⟨zL (ud HR).symm,ud d _ _⟩
theorem Tryz.infoTask:(prog.info? 239).map (fun i=>(i.zero,i.size,i.bytes))=E (E (.agg #[I J 0,I J 0,I J 0,I J 0,I J 0,I J 0,I J 0,I J 0,I J 0,I J 0,I J 0]),11,88):=by kernel_rfl
def yc(f:Tk):Obj:=.cells #[I J f.kind,I J f.s.t,I J f.s.se,I J f.s.we,I J f.si,I J f.tc,I J f.rest,I J f.ep,I J f.num,I J f.slot,I J f.till] 239 (0,0)
theorem Ys{w:D}{ops:Array Oper}{rest:List Oper}{o:Oper}{a:Act}{Q:Exit->Act->D->Prop}(i:o.guard=O)(s x:Operand)
  (q:o.op=.call {callee:=.builtin .append,args:=#[s,x],argTypes:=#[188,188]}) (base:Nat) (v:Value) (l:List Tk) (f:Tk) (r:a.eval s=v) (c:w.ownsRow base 239 11 v l.length (l.flatMap tkV))
  (d:Nat) (t:a.eval x=.slice (E ⟨d,0,O⟩) 1 1) (e:w.1[d]?=E (yc f)) (u:l.length<=1099511627776) (b:base<=w.1.size)
  (h:∀g cap w',w'.ownsRow base 239 11 (.slice (E ⟨g,0,O⟩) (l.length+1) cap) (l++[f]).length ((l++[f]).flatMap tkV)->w'.ownsRow base 239 11 v l.length (l.flatMap tkV)->w.grownBy w' v.ownBlock->(v.ownBlock=E g\/g=w.1.size)->g<w'.1.size->wpList prog ops Q rest (a.put o.dst (.slice (E ⟨g,0,O⟩) (l.length+1) cap)) w'):wpList prog ops Q (o::rest) a w:=
 zP i s x 188 q base 239 _ 11 88 underlying188 Tryz.infoTask rfl (by decide) v l.length (l.flatMap tkV) r c ⟨d,0,O⟩ 1 1 (tkV f) t rfl
  (World.news_of_block (cs:=(tkV f).toArray) e) (XS f) (by decide) (by simp only[maxLen];omega) (by omega) b
  fun g cap w' j k m n p=>h g cap w' (Qx j) k m n p
theorem Zd{w:D}{B:Nat}{e:TypeId}{v:Value}{l:List Tk}(h:w.ownsRow B e 11 v l.length (l.flatMap tkV)){i:Nat}{x:Tk}(b:l[i]?=E x):
  ∃g cap,v=.slice (E ⟨g,0,O⟩) l.length cap/\B<=g/\g<w.1.size/\w.cell? ⟨g,i*11,O⟩=E (I J x.kind)/\w.cell? ⟨g,i*11+1,O⟩=E (I J x.s.t)/\w.cell? ⟨g,i*11+2,O⟩=E (I J x.s.se)/\w.cell? ⟨g,i*11+3,O⟩=E (I J x.s.we)/\w.cell? ⟨g,i*11+4,O⟩=E (I J x.si)/\w.cell? ⟨g,i*11+5,O⟩=E (I J x.tc)/\w.cell? ⟨g,i*11+6,O⟩=E (I J x.rest)/\w.cell? ⟨g,i*11+7,O⟩=E (I J x.ep)/\w.cell? ⟨g,i*11+8,O⟩=E (I J x.num)/\w.cell? ⟨g,i*11+9,O⟩=E (I J x.slot)/\w.cell? ⟨g,i*11+10,O⟩=E (I J x.till):=by
 have d:i<l.length:=(List.getElem?_eq_some_iff.1 b).1
 obtain⟨g,cap,hv,c,a⟩:=h.form (by omega)
 rw[hv]at h
 have e:∀j,j<11->w.cell? ⟨g,i*11+j,O⟩=(tkV x)[j]?:=fun j k=>by
  rw[h.cellAt _ (by omega)];exact ql (f:=tkV) qG l i x j b k
 exact⟨g,cap,hv,c,a,e 0 (by omega),e 1 (by omega),e 2 (by omega),e 3 (by omega),e 4 (by omega),e 5 (by omega),e 6 (by omega),e 7 (by omega),e 8 (by omega),e 9 (by omega),e 10 (by omega)⟩
theorem yE{w:D}{b c:Nat}{e:TypeId}{size:Nat}{v:Value}{n:Nat}{xs:List Value}(h:w.ownsRow b e size v n xs)(f:c<=b):w.ownsRow c e size v n xs:=by
 refine⟨h.1,?_⟩
 rcases h.2 with d|⟨g,cap,a,rfl,i,r⟩
 ·exact .inl d
 ·exact .inr ⟨g,cap,a,rfl,Nat.le_trans f i,r⟩
theorem zgQ{l:List Tk}{i:Nat}{x:Tk}(h:l[i]?=E x):l.take (i+1)=l.take i++[x]:=by
 obtain⟨a,b⟩:=List.getElem?_eq_some_iff.1 h
 rw[List.take_succ_eq_append_getElem a,b]
theorem xG{w:D}{g:Nat}{f:Tk}(h:w.1[g]?=E (yc f)):w.cell? ⟨g,0,O⟩=E (I J f.kind)/\w.cell? ⟨g,1,O⟩=E (I J f.s.t)/\w.cell? ⟨g,2,O⟩=E (I J f.s.se)/\w.cell? ⟨g,3,O⟩=E (I J f.s.we)/\w.cell? ⟨g,4,O⟩=E (I J f.si)/\w.cell? ⟨g,5,O⟩=E (I J f.tc)/\w.cell? ⟨g,6,O⟩=E (I J f.rest)/\w.cell? ⟨g,7,O⟩=E (I J f.ep)/\w.cell? ⟨g,8,O⟩=E (I J f.num)/\w.cell? ⟨g,9,O⟩=E (I J f.slot)/\w.cell? ⟨g,10,O⟩=E (I J f.till):=by
 refine⟨?_,?_,?_,?_,?_,?_,?_,?_,?_,?_,?_⟩<;>rw[zN h]<;>rfl
theorem ziz(B:Nat)(l:List Tk)(v:Value)(t:Tk)(w:D)(hl:l.length<=1000000000000)(h:w.ownsRow B 239 11 v l.length (l.flatMap tkV)):
  Calls prog 222 #[v,.agg #[I J t.kind,I J t.s.t,I J t.s.se,I J t.s.we,I J t.si,I J t.tc,I J t.rest,I J t.ep,I J t.num,I J t.slot,I J t.till]] w fun e w'=>∃v',e=.returned v'/\w'.ownsRow w.1.size 239 11 v' (yN xZ t l).length ((yN xZ t l).flatMap tkV)/\Z w.1.size w w':=by
 obtain⟨a0,aB,hv⟩:=zq h
 subst hv
 have H:=ze h
 have aG:w.1.size<(w.alloc (yc t)).1.size:=by rw[zF];omega
 have am:Z w.1.size w (w.alloc (yc t)):=(N _ _).alloc (Y _) _
 have V:=zo w (yc t)
 have a5:=ze V
 have HZ:=ze (zF w (yc t))
 clear h V
 go_enter func222,ntmps222
 go_wp2_with fail
 have a7:(w.alloc (yc t))=(w.alloc (.cells #[I J t.kind,I J t.s.t,I J t.s.se,I J t.s.we,I J t.si,I J t.tc,I J t.rest,I J t.ep,I J t.num,I J t.slot,I J t.till] 239)):=rfl
 rw[<-a7]
 clear a7
 generalize(w.alloc (yc t))=W at*
 go_loopw [5,6,7,8] (fun z b y _ wr=>∃(i:Nat),i<=l.length/\y=I J i/\b=.bool (kS xZ t (l.take i))/\wr.ownsRow (w.1.size+1) 239 11 z (yt xZ t (l.take i)).length ((yt xZ t (l.take i)).flatMap tkV)/\Z (w.1.size+1) W wr) (fun _ _ y _ _=>l.length-(intOf y).toNat)
 case atStart=>exact⟨0,Nat.zero_le _,rfl,rfl,World.ownsRow_nil _ _ _ _,N _ _⟩
 case round=>
  obtain⟨i,hi,rfl,rfl,hz,hb⟩:=hrel
  obtain⟨az,cz,aw⟩:=zq hz
  subst aw
  have aa:Z w.1.size w wr:=am.trans (hb.mono (by omega))
  have HB:=ze hb
  have a1:=ze aa
  have C:=ze hz
  have q:=(hb.block w.1.size (by omega)).trans (ud a5)
  obtain⟨t0,t1,t2,t3,t4,t5,t6,t7,t8,t9,ax⟩:=xG q
  have ak:=ze q
  have av:w.1.size<wr.1.size:=zd q
  clear q hb aa hz
  by_cases ao:i<l.length
  ·obtain⟨x,hx⟩:=xr ao
   obtain⟨g,aA,au,aJ,n,x0,x1,x2,x3,x4,x5,x6,x7,x8,x9,ah⟩:=Zd (xv (ud H) (ud a1)) hx
   injection au with ae af ag
   subst ae
   have aK:g<w.1.size:=by
    obtain⟨g',c',ar,_,aE,_⟩:=Zd (ud H) hx
    injection ar with h1
    injection h1 with h1
    injection h1 with h1
    omega
   have ad:=zgQ hx
   have aL:(i:Int)<l.length:=by omega
   have aq:Nonempty (zm wr.1.size wr):=zm.some _ _
   have ap:=fun(u:zm wr.1.size wr) b o h=>u.cell b o h
   have ac:=Ky xZ t (l.take i)
   rw[List.length_take,Nat.min_eq_left hi]at ac
   have al:=ze (fun(u:zm wr.1.size wr)=>Vn t x u.1)
   have A:=ze ad
   clear hx af ag ad
   go_wp2_with fail
   refine zh wr.1.size (by kernel_rfl) (by kernel_rfl) ?_
   repeat(go_big_quiet_step (first|(go_at_call 224;exact Calls.later (Y _) (ud al _))))
   refine wpQuiet_nil ?_
   rintro⟨w1,d⟩
   dsimp only
   clear ap aq
   have aD:=d.size
   have X:=ze (xv (ud C) d)
   have FB:=ze ((ud HB).trans (d.mono (by omega)))
   have z0:=(d.cell (p:=⟨g,i*11,O⟩) n).trans x0
   have z1:=(d.cell (p:=⟨g,i*11+1,O⟩) n).trans x1
   have z2:=(d.cell (p:=⟨g,i*11+2,O⟩) n).trans x2
   have z3:=(d.cell (p:=⟨g,i*11+3,O⟩) n).trans x3
   have z4:=(d.cell (p:=⟨g,i*11+4,O⟩) n).trans x4
   have z5:=(d.cell (p:=⟨g,i*11+5,O⟩) n).trans x5
   have z6:=(d.cell (p:=⟨g,i*11+6,O⟩) n).trans x6
   have z7:=(d.cell (p:=⟨g,i*11+7,O⟩) n).trans x7
   have z8:=(d.cell (p:=⟨g,i*11+8,O⟩) n).trans x8
   have z9:=(d.cell (p:=⟨g,i*11+9,O⟩) n).trans x9
   have ai:=(d.cell (p:=⟨g,i*11+10,O⟩) n).trans ah
   have aH:g<w1.1.size:=by omega
   have aM:w.1.size<w1.1.size:=by omega
   have q:=(d.block _ av).trans (ud ak)
   obtain⟨u0,u1,u2,u3,u4,u5,u6,u7,u8,u9,a4⟩:=xG q
   have ay:=ze q
   clear q x0 x1 x2 x3 x4 x5 x6 x7 x8 x9 ah t0 t1 t2 t3 t4 t5 t6 t7 t8 t9 ax
   cases c:kS xZ t (l.take i)
   ·cases T:xZ t x
    ·have F:=ze (zdy xZ c T)
     clear c T u0 u1 u2 u3 u4 u5 u6 u7 u8 u9 a4
     generalize yt xZ t (l.take i)=P at*
     go_wp2_with(first|(at_builtin;refine Ys rfl _ _ rfl (w.1.size+1) _ P x rfl ((ud X).alloc _) w1.1.size rfl (zo _ (yc x)) ?hll ?hbb ?_;(case hll=>omega);(case hbb=>(rw[zF];omega));intro g2 K w3 j M f a2 L)|fail)
     have r:Z (w.1.size+1) W w3:=((ud FB).alloc (by omega) _).grown f (by rw[zF];omega) (fun k R=>((ud X).lt k R).1)
     exact⟨⟨i+1,by omega,by go_num,by rw[ud A,(ud F).2],by rw[ud A,(ud F).1];exact j,r⟩,by simp[intOf];omega⟩
    ·have F:=ze (zdx xZ c T)
     clear c T
     generalize yt xZ t (l.take i)=P at*
     go_wp2_with(first
      |(at_builtin;refine Ys rfl _ _ rfl (w.1.size+1) _ P t rfl ((ud X).alloc _) w1.1.size rfl (zo _ (yc t)) ?hll ?hbb ?_;(case hll=>omega);(case hbb=>(rw[zF];omega));intro g1 aC w2 Q a3 m a8 aF;have gb:∀k,k<w.1.size+1->w2.1[k]?=w1.1[k]?:=(fun k R=>(m.block k (by rw[zF];omega) (fun e=>by have:=((ud X).lt k e.symm).1;omega)).trans (Below.heap_alloc _ _ _ (by omega)));have a9:Z (w.1.size+1) W w2:=(((ud FB).alloc (by omega) _).grown m (by rw[zF];omega) (fun k R=>((ud X).lt k R).1));have aN:w1.1.size<w2.1.size:=(by have:=m.size;rw[zF]at this;omega);have aI:g<w2.1.size:=(by omega);have y0:=(World.cell?_of_block (a:=⟨g,i*11,O⟩) (gb g (by omega))).trans z0;have y1:=(World.cell?_of_block (a:=⟨g,i*11+1,O⟩) (gb g (by omega))).trans z1;have y2:=(World.cell?_of_block (a:=⟨g,i*11+2,O⟩) (gb g (by omega))).trans z2;have y3:=(World.cell?_of_block (a:=⟨g,i*11+3,O⟩) (gb g (by omega))).trans z3;have y4:=(World.cell?_of_block (a:=⟨g,i*11+4,O⟩) (gb g (by omega))).trans z4;have y5:=(World.cell?_of_block (a:=⟨g,i*11+5,O⟩) (gb g (by omega))).trans z5;have y6:=(World.cell?_of_block (a:=⟨g,i*11+6,O⟩) (gb g (by omega))).trans z6;have y7:=(World.cell?_of_block (a:=⟨g,i*11+7,O⟩) (gb g (by omega))).trans z7;have y8:=(World.cell?_of_block (a:=⟨g,i*11+8,O⟩) (gb g (by omega))).trans z8;have y9:=(World.cell?_of_block (a:=⟨g,i*11+9,O⟩) (gb g (by omega))).trans z9;have aO:=(World.cell?_of_block (a:=⟨g,i*11+10,O⟩) (gb g (by omega))).trans ai;have aj:=ze a9;have G:=ze Q;clear gb a9 Q a3 m a8 z0 z1 z2 z3 z4 z5 z6 z7 z8 z9 ai u0 u1 u2 u3 u4 u5 u6 u7 u8 u9 a4)
      |(at_builtin;refine Ys rfl _ _ rfl (w.1.size+1) _ (P++[t]) x rfl ((ud G).alloc _) w2.1.size rfl (zo _ (yc x)) ?hll ?hbb ?_;(case hll=>(rw[List.length_append];simp;omega));(case hbb=>(rw[zF];omega));intro g2 K w3 j M f a2 L)
      |fail)
     have ab:(P++[t]).length+1=P.length+1+1:=by rw[List.length_append];rfl
     rw[ab]at j
     have r:Z (w.1.size+1) W w3:=((ud aj).alloc (by omega) _).grown f (by rw[zF];omega) (fun k R=>((ud G).lt k R).1)
     exact⟨⟨i+1,by omega,by go_num,by rw[ud A,(ud F).2],by rw[ud A,(ud F).1];exact j,r⟩,by simp[intOf];omega⟩
   ·have F:=ze (zfN xZ (y:=x) c)
    clear c u0 u1 u2 u3 u4 u5 u6 u7 u8 u9 a4
    generalize yt xZ t (l.take i)=P at*
    go_wp2_with(first|(at_builtin;refine Ys rfl _ _ rfl (w.1.size+1) _ P x rfl ((ud X).alloc _) w1.1.size rfl (zo _ (yc x)) ?hll ?hbb ?_;(case hll=>omega);(case hbb=>(rw[zF];omega));intro g2 K w3 j M f a2 L)|fail)
    have r:Z (w.1.size+1) W w3:=((ud FB).alloc (by omega) _).grown f (by rw[zF];omega) (fun k R=>((ud X).lt k R).1)
    exact⟨⟨i+1,by omega,by go_num,by rw[ud A,(ud F).2],by rw[ud A,(ud F).1];exact j,r⟩,by simp[intOf];omega⟩
  ·have an:i=l.length:=by omega
   have hT:l.take i=l:=by rw[an,List.take_length]
   have ac:=Ky xZ t l
   rw[hT]at C
   rw[hT]
   cases c:kS xZ t l
   ·have F:=ze (Kl xZ c)
    have a6:=ze (show yt xZ t l=l by simp[yt,c])
    rw[ud a6]at C
    clear c
    rw[ud a6]
    go_wp2_with(first|(at_builtin;refine Ys rfl _ _ rfl (w.1.size+1) _ l t rfl ((ud C).alloc _) wr.1.size rfl (zo _ (yc t)) ?hll ?hbb ?_;(case hll=>omega);(case hbb=>(rw[zF];omega));intro g2 K w3 j M f a2 L)|fail)
    have r:Z w.1.size w w3:=((ud a1).alloc (by omega) _).grown f (by rw[zF];omega) (fun k R=>by have:=((ud C).lt k R).1;omega)
    go_ret
    exact⟨_,rfl,by rw[ud F];exact yE j (by omega),r⟩
   ·have F:=ze (show yt xZ t l=yN xZ t l by simp[yt,c])
    clear c
    go_wp2_with fail
    go_ret
    exact⟨_,rfl,by rw[<-ud F];exact yE (ud C) (by omega),ud a1⟩
end Go.Proofs.YtpbimdkclnekeaaGreat
