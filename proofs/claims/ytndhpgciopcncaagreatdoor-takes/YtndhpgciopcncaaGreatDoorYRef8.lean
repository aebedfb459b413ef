import Derived.Test.YtndhpgciopcncaaGreatDoorYRef5
import Derived.Laws.ResultCell
import Derived.Maps.Keyed
import Derived.Maps.RangeRun
import Derived.DeepKeys4
import Derived.RangeFuncOwn
open Go.Value renaming int → I
open Go.IntKind renaming i64 → J
open Option renaming none → O
open Option renaming some → U
open Go renaming World → Y
open Go.RowKit renaming Below → Z
open Nat renaming le_refl → N
open Go.RowKit.Below renaming refl → S
open Go.IntKind renaming i32 → D
open Go renaming Value → G
open Nat renaming lt_of_lt_of_le → R
open Nat renaming zero_le → M
set_option linter.unusedVariables false
set_option maxRecDepth 8000
set_option maxHeartbeats 8000000
open Go.Proofs.Tryz
namespace Go.Proofs.YtndhpgciopcncaaGreatDoor
open Go.RowKit
theorem zp{P:Program}{fn:Func}{p u:Tmp}{a:TypeId}(h:fn.results=#[.cell p a,.tmp u])(tmps:Array G)(w:Y)(g:Nat)(t:TypeId)(cs:Array G)(b:Nat×Nat)(d:TypeDesc)(x:G)
  (i:tmps.getD p undef=.pointer (U ⟨g,0,O⟩)) (k:tmps.getD u undef=x) (e:w.1[g]?=U (.cells cs t b))
  (j:P.underlying a=U d) (c:(match d with| .struct _| .array _ _=>true|_=>false)=true) (f:(P.info? a).map (·.size)=U cs.size):
  (results fn tmps).run P w=.ok (.tuple #[.agg cs,x]) w:=by
 rw[results_cell_tmp h,i,k]
 simp[asAddr,run_loadVar_row w g t a cs b d e j c f,Result.andThen]
def RM.query(m:RM)(t se wn:Int):Cl×Int:=
 if t< -1\/m.c.n<=t\/se<0\/4<=se\/wn<0\/100000<wn then(⟨0,0,0,0⟩,2)
 else if m.now-m.c.la<m.c.end ⟨t,se,wn⟩then(⟨0,0,0,0⟩,9)
 else if(xe m.c ⟨t,se,wn⟩ m.nu).cnt=0 then(⟨0,0,0,0⟩,10)
 else if(⟨t,se,wn⟩:Sg)∈m.gone then(⟨0,0,0,0⟩,12)
 else if 0<=t/\¬(⟨t,se,wn⟩:Sg)∈m.pub then(⟨0,0,0,0⟩,11)
 else(xe m.c ⟨t,se,wn⟩ m.nu,0)
theorem kB{m:RM}{t se wn:Int}(h:t< -1\/m.c.n<=t\/se<0\/4<=se\/wn<0\/100000<wn):m.query t se wn=(⟨0,0,0,0⟩,2):=by simp[RM.query,h]
theorem Kg{m:RM}{t se wn:Int}(h:¬(t< -1\/m.c.n<=t\/se<0\/4<=se\/wn<0\/100000<wn))(a:m.now-m.c.la<m.c.end ⟨t,se,wn⟩):m.query t se wn=(⟨0,0,0,0⟩,9):=by
 unfold RM.query;rw[if_neg h,if_pos a]
theorem Y6{m:RM}{t se wn:Int}(h:¬(t< -1\/m.c.n<=t\/se<0\/4<=se\/wn<0\/100000<wn))(a:¬m.now-m.c.la<m.c.end ⟨t,se,wn⟩)(b:(xe m.c ⟨t,se,wn⟩ m.nu).cnt=0):m.query t se wn=(⟨0,0,0,0⟩,10):=by
 unfold RM.query;rw[if_neg h,if_neg a,if_pos b]
theorem Kf{m:RM}{t se wn:Int}(h:¬(t< -1\/m.c.n<=t\/se<0\/4<=se\/wn<0\/100000<wn))(a:¬m.now-m.c.la<m.c.end ⟨t,se,wn⟩)(b:¬(xe m.c ⟨t,se,wn⟩ m.nu).cnt=0)(d:(⟨t,se,wn⟩:Sg)∈m.gone):m.query t se wn=(⟨0,0,0,0⟩,12):=by
 unfold RM.query;rw[if_neg h,if_neg a,if_neg b,if_pos d]
theorem Kh{m:RM}{t se wn:Int}(h:¬(t< -1\/m.c.n<=t\/se<0\/4<=se\/wn<0\/100000<wn))(a:¬m.now-m.c.la<m.c.end ⟨t,se,wn⟩)(b:¬(xe m.c ⟨t,se,wn⟩ m.nu).cnt=0)(d:¬(⟨t,se,wn⟩:Sg)∈m.gone)(e:0<=t/\¬(⟨t,se,wn⟩:Sg)∈m.pub):m.query t se wn=(⟨0,0,0,0⟩,11):=by
 unfold RM.query;rw[if_neg h,if_neg a,if_neg b,if_neg d,if_pos e]
theorem KW{m:RM}{t se wn:Int}(h:¬(t< -1\/m.c.n<=t\/se<0\/4<=se\/wn<0\/100000<wn))(a:¬m.now-m.c.la<m.c.end ⟨t,se,wn⟩)(b:¬(xe m.c ⟨t,se,wn⟩ m.nu).cnt=0)(d:¬(⟨t,se,wn⟩:Sg)∈m.gone)(e:¬(0<=t/\¬(⟨t,se,wn⟩:Sg)∈m.pub)):m.query t se wn=(xe m.c ⟨t,se,wn⟩ m.nu,0):=by
 unfold RM.query;rw[if_neg h,if_neg a,if_neg b,if_neg d,if_neg e]
def clV(A:Cl):G:=.agg #[I J A.cnt,I J A.sum,I D A.mn,I D A.mx]
theorem ql{m:RM}{t se wn:Int}{A:Cl}{x:Int}(h:m.query t se wn=(A,x)):Ending.returned (.tuple #[.agg #[I J A.cnt,I J A.sum,I D A.mn,I D A.mx],I J x])=.returned (.tuple #[clV (m.query t se wn).1,I J (m.query t se wn).2]):=by rw[h];rfl
theorem Kk{B:Nat}{w:Y}{p:Nat}{m:RM}{tv nv pv gv kv:G}(h:zQ B w p m tv nv pv gv kv)(hc:m.c.ok)(aB:m.nu.length<=1000000000)(aL:m.gone.length<=1000000000000)(aV:m.pub.length<=1000000000000)(ak:∀x∈m.nu,x.ok)(aK:0<=m.now/\m.now<=100000)(t se wn:Int):
  Calls prog 144 #[.pointer (U ⟨p,0,O⟩),I J t,I J se,I J wn] w fun e w'=>e=.returned (.tuple #[clV (m.query t se wn).1,I J (m.query t se wn).2])/\Z w.1.size w w':=by
 have H:=zd h
 have b1:=zr w (.cells #[I J 0,I J 0,I D 0,I D 0] 115)
 have C:Z w.1.size w (w.alloc (.cells #[I J 0,I J 0,I D 0,I D 0] 115)):=(S _ _).alloc (N _) _
 have hp:=h.lt
 obtain⟨at_,ct,aE⟩:=zm h.trow
 subst aE
 obtain⟨c0,c1,c2,c3,c4,c5,c6⟩:=h.conf
 clear c0 c1 c3 c4 c5
 obtain⟨r7,r8,r9,a9,aa,ab,ac⟩:=h.rest
 clear r8 r9 a9 aa ab ac
 have B1:=zd b1
 clear h b1
 by_cases g:t< -1
 ·have i:=zd (kB (m:=m) (t:=t) (se:=se) (wn:=wn) (.inl g))
  go_enter func144,ntmps144
  go_wp2_with fail
  refine bodyPost_ret (v:=.tuple #[.agg #[I J 0,I J 0,I D 0,I D 0],I J 2]) (zp results144 _ _ w.1.size _ _ _ _ _ rfl rfl (zr w _) underlying115 rfl (by kernel_rfl)) rfl ⟨ql (ud i),C⟩
 have aM:=g
 clear g
 by_cases g:(m.c.n:Int)<=t
 ·have i:=zd (kB (m:=m) (t:=t) (se:=se) (wn:=wn) (.inr (.inl g)))
  go_enter func144,ntmps144
  go_wp2_with fail
  refine bodyPost_ret (v:=.tuple #[.agg #[I J 0,I J 0,I D 0,I D 0],I J 2]) (zp results144 _ _ w.1.size _ _ _ _ _ rfl rfl (zr w _) underlying115 rfl (by kernel_rfl)) rfl ⟨ql (ud i),C⟩
 have aN:=g
 clear g
 by_cases g:se<0
 ·have i:=zd (kB (m:=m) (t:=t) (se:=se) (wn:=wn) (.inr (.inr (.inl g))))
  go_enter func144,ntmps144
  go_wp2_with fail
  refine bodyPost_ret (v:=.tuple #[.agg #[I J 0,I J 0,I D 0,I D 0],I J 2]) (zp results144 _ _ w.1.size _ _ _ _ _ rfl rfl (zr w _) underlying115 rfl (by kernel_rfl)) rfl ⟨ql (ud i),C⟩
 have aO:=g
 clear g
 by_cases g:4<=se
 ·have i:=zd (kB (m:=m) (t:=t) (se:=se) (wn:=wn) (.inr (.inr (.inr (.inl g)))))
  go_enter func144,ntmps144
  go_wp2_with fail
  refine bodyPost_ret (v:=.tuple #[.agg #[I J 0,I J 0,I D 0,I D 0],I J 2]) (zp results144 _ _ w.1.size _ _ _ _ _ rfl rfl (zr w _) underlying115 rfl (by kernel_rfl)) rfl ⟨ql (ud i),C⟩
 have aP:=g
 clear g
 by_cases g:wn<0
 ·have i:=zd (kB (m:=m) (t:=t) (se:=se) (wn:=wn) (.inr (.inr (.inr (.inr (.inl g))))))
  go_enter func144,ntmps144
  go_wp2_with fail
  refine bodyPost_ret (v:=.tuple #[.agg #[I J 0,I J 0,I D 0,I D 0],I J 2]) (zp results144 _ _ w.1.size _ _ _ _ _ rfl rfl (zr w _) underlying115 rfl (by kernel_rfl)) rfl ⟨ql (ud i),C⟩
 have aQ:=g
 clear g
 by_cases g:100000<wn
 ·have i:=zd (kB (m:=m) (t:=t) (se:=se) (wn:=wn) (.inr (.inr (.inr (.inr (.inr g))))))
  go_enter func144,ntmps144
  go_wp2_with fail
  refine bodyPost_ret (v:=.tuple #[.agg #[I J 0,I J 0,I D 0,I D 0],I J 2]) (zp results144 _ _ w.1.size _ _ _ _ _ rfl rfl (zr w _) underlying115 rfl (by kernel_rfl)) rfl ⟨ql (ud i),C⟩
 have aR:=g
 clear g
 have a6:¬(t< -1\/m.c.n<=t\/se<0\/4<=se\/wn<0\/100000<wn):=by omega
 have L:=zd a6
 clear a6
 obtain⟨b0,b1,a,bz⟩:=box2 w (.cells #[I J 0,I J 0,I D 0,I D 0] 115) (.cells #[I J t,I J se,I J wn] 287)
 have a7: -1<=t:=by omega
 have a8:t<m.c.n:=by omega
 have an:0<=wn:=by omega
 have ao:wn<=100000:=by omega
 have aS:=hc.la
 have af:=zd (zae ((ud H).later a) hc ⟨t,se,wn⟩ a7 a8 an ao)
 have az:=hc.ends (s:=⟨t,se,wn⟩) a7 a8 an ao
 obtain⟨aI,aJ⟩:=az
 obtain⟨sg,aD⟩:∃sg:Sg,sg=⟨t,se,wn⟩:=⟨_,rfl⟩
 have B0:=zd b0
 have B1:=zd b1
 have BZ:=zd bz
 clear b0 b1 bz
 go_enter func144,ntmps144
 go_wp2_with fail
 generalize hW:((w.alloc (.cells #[I J 0,I J 0,I D 0,I D 0] 115)).alloc (.cells #[I J t,I J se,I J wn] 287))=W at*
 refine(ud af).mono ?_
 rintro e w1 ⟨rfl,V⟩
 have aW:=hp
 have d2:w1.cell? ⟨p,2,O⟩=U (I J m.c.la):=((a.trans (V.mono a.size)).cell (p:=⟨p,2,O⟩) hp).trans c2
 have d7:w1.cell? ⟨p,7,O⟩=U (I J m.now):=((a.trans (V.mono a.size)).cell (p:=⟨p,7,O⟩) hp).trans r7
 have aT:p<w1.1.size:=R hp (a.trans (V.mono a.size)).size
 have F:Nonempty (zj w1.1.size w1):=zj.some _ _
 have E:=fun(u:zj w1.1.size w1) b o h=>u.cell b o h
 have P:=zd V
 clear c2 r7 c6 V aD sg
 by_cases ho:m.now-m.c.la<m.c.end ⟨t,se,wn⟩
 ·have i:=zd (Kg (ud L) ho)
  go_wp2_with fail
  refine ze w1.1.size (by kernel_rfl) (by kernel_rfl) ?_
  repeat(go_big_quiet_step (fail))
  refine wpQuiet_nil ?_
  rintro⟨w2,a2⟩
  dsimp only
  clear E F
  have r:=zd ((ud P).trans (a2.mono (ud P).size))
  have d:=((ud r).block w.1.size (by have:=ud BZ;omega)).trans (ud B0)
  obtain⟨f0,f1,f2,f3,-⟩:=zc d
  have ff:∀j,w2.frozen? ⟨w.1.size,j,O⟩=false:=fun j=>zH d j
  have a0:w.1.size<w2.1.size:=zb d
  have T:=zd d
  clear d
  go_wp2_with fail
  have hf:=ziW (ud T) (I J 0) (I J 0) (I D 0) (I D 0)
  refine bodyPost_ret (v:=.tuple #[.agg #[I J 0,I J 0,I D 0,I D 0],I J 9]) (zp results144 _ _ w.1.size _ _ _ _ _ rfl rfl hf underlying115 rfl (by kernel_rfl)) rfl ⟨ql (ud i),?_⟩
  refine(a.trans ((ud r).mono a.size)).trans ?_
  repeat(refine xN ?_ (N _))
  exact S _ _
 ·go_wp2_with fail
  refine ze w1.1.size (by kernel_rfl) (by kernel_rfl) ?_
  repeat(go_big_quiet_step (fail))
  refine wpQuiet_nil ?_
  rintro⟨w2,a2⟩
  dsimp only
  clear E F
  have a1:=zd ((ud P).trans (a2.mono (ud P).size))
  have q:=((ud a1).block (w.1.size+1) (by have:=ud BZ;omega)).trans (ud B1)
  obtain⟨s0,s1,s2,-⟩:=zc q
  have k:=a.trans ((ud a1).mono a.size)
  have ae:=zd (zbb ((ud H).later k) hc aB ak ⟨t,se,wn⟩ a7 a8)
  clear q d2 d7 a2 P
  go_wp2_with fail
  refine(ud ae).mono ?_
  rintro e w3 ⟨rfl,a3⟩
  have aj:∀o,Z w2.1.size w2 (w3.alloc o):=fun o=>a3.alloc a3.size o
  have aq:∀o,(w3.alloc o).1[w3.1.size]?=U o:=fun o=>zr w3 o
  have ar:∀o,w3.1.size<(w3.alloc o).1.size:=fun o=>by rw[zG];omega
  have ay:=yB (c:=m.c) (s:=⟨t,se,wn⟩) (nu:=m.nu) ak
  have y:Hid (∀A,A=xe m.c ⟨t,se,wn⟩ m.nu->(A.cnt=0->m.query t se wn=(⟨0,0,0,0⟩,10))/\(¬A.cnt=0->(⟨t,se,wn⟩:Sg)∈m.gone->m.query t se wn=(⟨0,0,0,0⟩,12))/\(¬A.cnt=0->¬(⟨t,se,wn⟩:Sg)∈m.gone->(0<=t/\¬(⟨t,se,wn⟩:Sg)∈m.pub)->m.query t se wn=(⟨0,0,0,0⟩,11))/\(¬A.cnt=0->¬(⟨t,se,wn⟩:Sg)∈m.gone->¬(0<=t/\¬(⟨t,se,wn⟩:Sg)∈m.pub)->m.query t se wn=(A,0))):=fun A hA=>by
   subst hA
   exact⟨Y6 (ud L) (by omega),Kf (ud L) (by omega),Kh (ud L) (by omega),KW (ud L) (by omega)⟩
  have y:=zd (ud y _ rfl)
  have aX:p<w3.1.size:=R hp (k.trans (a3.mono k.size)).size
  generalize xe m.c ⟨t,se,wn⟩ m.nu=A at*
  obtain⟨aG,aH,-⟩:=ay
  go_wp2_with fail
  have aw:=zd (aq (.cells #[I J A.cnt,I J A.sum,I D A.mn,I D A.mx] 115))
  have ad:=zd (aj (.cells #[I J A.cnt,I J A.sum,I D A.mn,I D A.mx] 115))
  have ax:=zd (ar (.cells #[I J A.cnt,I J A.sum,I D A.mn,I D A.mx] 115))
  clear aq aj ar s0 s1 s2
  generalize hX:(w3.alloc (.cells #[I J A.cnt,I J A.sum,I D A.mn,I D A.mx] 115))=X at*
  clear hX
  have ah:Z w.1.size w X:=k.trans ((ud ad).mono k.size)
  have Q:=zd ((ud a1).trans ((ud ad).mono (ud a1).size))
  have q:=((ud Q).block (w.1.size+1) (by have:=ud BZ;omega)).trans (ud B1)
  obtain⟨s0,s1,s2,-⟩:=zc q
  have a4:w.1.size+1<X.1.size:=zb q
  have z:=zd ((ud H).later ah)
  obtain⟨r7,r8,r9,a9,aa,ab,ac⟩:=(ud z).rest
  have al:=(ud z).lt
  obtain⟨ag,cg,aA⟩:=zm (ud z).grow
  subst aA
  obtain⟨ap,cp,aC⟩:=zm (ud z).prow
  subst aC
  have au:=zd (fun(u:zj X.1.size X)=>xH B m.gone _ ⟨t,se,wn⟩ u.1 (by omega) ((ud z).later u.2).grow)
  have av:=zd (fun(K:Y) (f:Z X.1.size X K) (u:zj K.1.size K)=>xH B m.pub _ ⟨t,se,wn⟩ u.1 (by omega) ((ud z).later (f.trans (u.2.mono f.size))).prow)
  have F:Nonempty (zj X.1.size X):=zj.some _ _
  have E:=fun(u:zj X.1.size X) b o h=>u.cell b o h
  clear q r7 r8 aa ab ac a3 ae k
  refine ze X.1.size (by kernel_rfl) (by kernel_rfl) ?_
  repeat(go_big_quiet_step (first|(go_at_call 218;exact Calls.later (N _) (ud au _))))
  refine wpQuiet_nil ?_
  rintro⟨K,f⟩
  dsimp only
  clear E F
  have y9:=(f.cell (p:=⟨p,9,O⟩) al).trans r9
  have y0:=(f.cell (p:=⟨w.1.size+1,0,O⟩) a4).trans s0
  have y1:=(f.cell (p:=⟨w.1.size+1,1,O⟩) a4).trans s1
  have y2:=(f.cell (p:=⟨w.1.size+1,2,O⟩) a4).trans s2
  have aU:p<K.1.size:=R al f.size
  have aY:w.1.size+1<K.1.size:=R a4 f.size
  have F:Nonempty (zj K.1.size K):=zj.some _ _
  have E:=fun(u:zj K.1.size K) b o h=>u.cell b o h
  go_wp2_with fail
  refine ze K.1.size (by kernel_rfl) (by kernel_rfl) ?_
  repeat(go_big_quiet_step (first|(go_at_call 218;exact Calls.later (N _) (ud av K f _))))
  refine wpQuiet_nil ?_
  rintro⟨w5,ai⟩
  dsimp only
  clear E F
  have a5:Z X.1.size X w5:=f.trans (ai.mono f.size)
  have r:=zd ((ud Q).trans (a5.mono (ud Q).size))
  have qa:=(a5.block w3.1.size (ud ax)).trans (ud aw)
  obtain⟨g0,g1,g2,g3,-⟩:=zc qa
  clear qa y0 y1 y2 y9 s0 s1 s2 r9 a9 f ai
  by_cases hz:A.cnt=0
  ·have i:=zd ((ud y).1 hz)
   have aF:(A.cnt==0)=true:=by simp[hz]
   clear hz
   have d:=((ud r).block w.1.size (by have:=ud BZ;omega)).trans (ud B0)
   obtain⟨f0,f1,f2,f3,-⟩:=zc d
   have ff:∀j,w5.frozen? ⟨w.1.size,j,O⟩=false:=fun j=>zH d j
   have a0:w.1.size<w5.1.size:=zb d
   have T:=zd d
   clear d
   go_wp2_with fail
   have hf:=ziW (ud T) (I J 0) (I J 0) (I D 0) (I D 0)
   refine bodyPost_ret (v:=.tuple #[.agg #[I J 0,I J 0,I D 0,I D 0],I J 10]) (zp results144 _ _ w.1.size _ _ _ _ _ rfl rfl hf underlying115 rfl (by kernel_rfl)) rfl ⟨ql (ud i),?_⟩
   refine(a.trans ((ud r).mono a.size)).trans ?_
   repeat(refine xN ?_ (N _))
   exact S _ _
  ·have aF:(A.cnt==0)=false:=by simp[hz]
   rcases kb ⟨t,se,wn⟩ m.gone with⟨hm,l⟩|⟨hm,l⟩
   ·have i:=zd ((ud y).2.1 hz l)
    rw[hm]
    clear hz hm l
    have d:=((ud r).block w.1.size (by have:=ud BZ;omega)).trans (ud B0)
    obtain⟨f0,f1,f2,f3,-⟩:=zc d
    have ff:∀j,w5.frozen? ⟨w.1.size,j,O⟩=false:=fun j=>zH d j
    have a0:w.1.size<w5.1.size:=zb d
    have T:=zd d
    clear d
    go_wp2_with fail
    have hf:=ziW (ud T) (I J 0) (I J 0) (I D 0) (I D 0)
    refine bodyPost_ret (v:=.tuple #[.agg #[I J 0,I J 0,I D 0,I D 0],I J 12]) (zp results144 _ _ w.1.size _ _ _ _ _ rfl rfl hf underlying115 rfl (by kernel_rfl)) rfl ⟨ql (ud i),?_⟩
    refine(a.trans ((ud r).mono a.size)).trans ?_
    repeat(refine xN ?_ (N _))
    exact S _ _
   ·by_cases hw:0<=t/\¬(⟨t,se,wn⟩:Sg)∈m.pub
    ·have i:=zd ((ud y).2.2.1 hz l hw)
     rw[hm,Xh hw.2]
     have am:=hw.1
     clear hz hm l hw
     have d:=((ud r).block w.1.size (by have:=ud BZ;omega)).trans (ud B0)
     obtain⟨f0,f1,f2,f3,-⟩:=zc d
     have ff:∀j,w5.frozen? ⟨w.1.size,j,O⟩=false:=fun j=>zH d j
     have a0:w.1.size<w5.1.size:=zb d
     have T:=zd d
     clear d
     go_wp2_with fail
     have hf:=ziW (ud T) (I J 0) (I J 0) (I D 0) (I D 0)
     refine bodyPost_ret (v:=.tuple #[.agg #[I J 0,I J 0,I D 0,I D 0],I J 11]) (zp results144 _ _ w.1.size _ _ _ _ _ rfl rfl hf underlying115 rfl (by kernel_rfl)) rfl ⟨ql (ud i),?_⟩
     refine(a.trans ((ud r).mono a.size)).trans ?_
     repeat(refine xN ?_ (N _))
     exact S _ _
    ·have i:=zd ((ud y).2.2.2 hz l hw)
     rw[hm]
     clear hz l hm
     by_cases am:0<=t
     ·rw[kz (Classical.not_not.1 (fun h=>hw ⟨am,h⟩))]
      clear hw
      have d:=((ud r).block w.1.size (by have:=ud BZ;omega)).trans (ud B0)
      obtain⟨f0,f1,f2,f3,-⟩:=zc d
      have ff:∀j,w5.frozen? ⟨w.1.size,j,O⟩=false:=fun j=>zH d j
      have a0:w.1.size<w5.1.size:=zb d
      have T:=zd d
      clear d
      go_wp2_with fail
      have hf:=ziW (ud T) (I J A.cnt) (I J A.sum) (I D A.mn) (I D A.mx)
      refine bodyPost_ret (v:=.tuple #[.agg #[I J A.cnt,I J A.sum,I D A.mn,I D A.mx],I J 0]) (zp results144 _ _ w.1.size _ _ _ _ _ rfl rfl hf underlying115 rfl (by kernel_rfl)) rfl ⟨ql (ud i),?_⟩
      refine(a.trans ((ud r).mono a.size)).trans ?_
      repeat(refine xN ?_ (N _))
      exact S _ _
     ·clear hw
      have d:=((ud r).block w.1.size (by have:=ud BZ;omega)).trans (ud B0)
      obtain⟨f0,f1,f2,f3,-⟩:=zc d
      have ff:∀j,w5.frozen? ⟨w.1.size,j,O⟩=false:=fun j=>zH d j
      have a0:w.1.size<w5.1.size:=zb d
      have T:=zd d
      clear d
      go_wp2_with fail
      have hf:=ziW (ud T) (I J A.cnt) (I J A.sum) (I D A.mn) (I D A.mx)
      refine bodyPost_ret (v:=.tuple #[.agg #[I J A.cnt,I J A.sum,I D A.mn,I D A.mx],I J 0]) (zp results144 _ _ w.1.size _ _ _ _ _ rfl rfl hf underlying115 rfl (by kernel_rfl)) rfl ⟨ql (ud i),?_⟩
      refine(a.trans ((ud r).mono a.size)).trans ?_
      repeat(refine xN ?_ (N _))
      exact S _ _
def onB(c:Cf)(a b:Sg):Bool:=if a.t= -1\/c.F a.t.toNat≠b.t\/a.se≠b.se then false else(b.wn*c.wh b.t/c.wh a.t==a.wn)
theorem on_1{c:Cf}{a b:Sg}(h:a.t= -1):onB c a b=false:=by simp[onB,h]
theorem on_2{c:Cf}{a b:Sg}(h:c.F a.t.toNat≠b.t):onB c a b=false:=by simp[onB,h]
theorem on_3{c:Cf}{a b:Sg}(h:a.se≠b.se):onB c a b=false:=by simp[onB,h]
theorem on_4{c:Cf}{a b:Sg}(d:¬a.t= -1)(e:c.F a.t.toNat=b.t)(f:a.se=b.se):onB c a b=(b.wn*c.wh b.t/c.wh a.t==a.wn):=by
 unfold onB;rw[if_neg];rintro(h|h|h)
 ·exact d h
 ·exact h e
 ·exact h f
theorem zbE{B:Nat}{w:Y}{p:Nat}{m:RM}{tv nv pv gv kv:G}(h:zQ B w p m tv nv pv gv kv)(hc:m.c.ok)(a b:Sg)(a3: -1<=a.t)(a4:a.t<m.c.n)(d: -1<=b.t)(x:b.t<m.c.n)(a5:0<=b.wn)(a6:b.wn<=100000):
  Calls prog 301 #[.pointer (U ⟨p,0,O⟩),.agg #[I J a.t,I J a.se,I J a.wn],.agg #[I J b.t,I J b.se,I J b.wn]] w fun e w'=>e=.returned (.bool (onB m.c a b))/\Z w.1.size w w':=by
 obtain⟨at_,cap,al⟩:=zm h.trow
 subst al
 have a7:=hc.n4
 have hp:=h.lt
 have a9:=TS.of_owns h.trow
 obtain⟨y0,y1,A,yz⟩:=box2 w (.cells #[I J a.t,I J a.se,I J a.wn] 287) (.cells #[I J b.t,I J b.se,I J b.wn] 287)
 have hr:=h.later A
 have H:=zd h
 obtain⟨c0,c1,c2,c3,c4,c5,c6⟩:=hr.conf
 have E:=a9.below A
 clear h hr
 go_enter func301,ntmps301
 go_wp2_with fail
 generalize hW:((w.alloc (.cells #[I J a.t,I J a.se,I J a.wn] 287)).alloc (.cells #[I J b.t,I J b.se,I J b.wn] 287))=W at*
 clear hW
 have f:p<W.1.size:=by omega
 have aa:w.1.size<W.1.size:=by omega
 have ab:w.1.size+1<W.1.size:=by omega
 obtain⟨a0,a1,a2,-⟩:=zc y0
 obtain⟨b0,b1,b2,-⟩:=zc y1
 have YZ:=zd yz
 have l:=zd A
 have L:=zd E
 clear y0 y1 yz A E a9
 have k:Nonempty (zj W.1.size W):=zj.some _ _
 have j:=fun(u:zj W.1.size W) b o h=>u.cell b o h
 by_cases C:a.t= -1
 ·have HR:=zd (on_1 (c:=m.c) (b:=b) C)
  have X:(a.t== -1)=true:=by simp[C]
  clear C
  refine ze W.1.size (by kernel_rfl) (by kernel_rfl) ?_
  repeat(go_big_quiet_step (fail))
  refine wpQuiet_nil ?_
  rintro⟨y,d⟩
  dsimp only
  clear j k
  go_wp2_with fail
  go_ret
  exact⟨zy (ud HR).symm,(ud l).trans (d.mono (ud l).size)⟩
 ·have X:(a.t== -1)=false:=by simp[C]
  obtain⟨i,hi⟩:=Int.eq_ofNat_of_zero_le (show 0<=a.t by omega)
  have ak:i<m.c.n:=by omega
  obtain⟨tb,ac,ah,aA,a8⟩:=ud L (by omega)
  subst ah
  obtain⟨t1,t2,t3⟩:=a8 i ak
  clear a8 t2 t3
  have r:m.c.F a.t.toNat=m.c.F i:=by rw[hi];simp
  have v:a.t=i:=hi
  have ax:(i:Int)<m.c.n:=by omega
  rw[v]at a0 X
  by_cases P:m.c.F i=b.t
  ·have af:(m.c.F i !=b.t)=false:=by simp[P]
   by_cases V:a.se=b.se
   ·have ag:(a.se !=b.se)=false:=by simp[V]
    obtain⟨aB,aC⟩:=hc.wh a3 a4
    obtain⟨aD,am⟩:=hc.wh d x
    have HR:=zd (on_4 (c:=m.c) C (by rw[r];exact P) V)
    have ay:0<=b.wn*m.c.wh b.t:=Int.mul_nonneg a5 (by omega)
    have az:b.wn*m.c.wh b.t<=100000*1000:=Int.mul_le_mul a6 am (by omega) (by omega)
    have av:=zd (show zY m.c.wi m.c.W a.t=m.c.wh a.t from rfl)
    have aw:=zd (show zY m.c.wi m.c.W b.t=m.c.wh b.t from rfl)
    have ad:=zd (show∀(u:Y),Z W.1.size W u->Calls prog 138 #[.agg #[I J m.c.s,I J m.c.le,I J m.c.la,I J m.c.wi,I J m.c.ke,I J m.c.qu,.slice (U ⟨tb,ac,O⟩) m.c.n cap],I J b.t] u fun e w'=>e=.returned (I J (m.c.wh b.t))/\Z u.1.size u w' from fun u hu=>kY _ _ _ _ _ _ _ _ cap m.c.F m.c.W m.c.K b.t d x a7 u ((ud L).below hu))
    have ae:=zd (show∀(u:Y),Z W.1.size W u->Calls prog 138 #[.agg #[I J m.c.s,I J m.c.le,I J m.c.la,I J m.c.wi,I J m.c.ke,I J m.c.qu,.slice (U ⟨tb,ac,O⟩) m.c.n cap],I J i] u fun e w'=>e=.returned (I J (m.c.wh a.t))/\Z u.1.size u w' from fun u hu=>by rw[<-v];exact kY _ _ _ _ _ _ _ _ cap m.c.F m.c.W m.c.K a.t a3 a4 a7 u ((ud L).below hu))
    clear C P V r hi v
    refine ze W.1.size (by kernel_rfl) (by kernel_rfl) ?_
    repeat(go_big_quiet_step (fail))
    refine wpQuiet_nil ?_
    rintro⟨y,d⟩
    dsimp only
    clear j k
    have z:=zd d
    have k0:=(d.cell (p:=⟨p,0,O⟩) f).trans c0
    have k1:=(d.cell (p:=⟨p,1,O⟩) f).trans c1
    have k2:=(d.cell (p:=⟨p,2,O⟩) f).trans c2
    have k3:=(d.cell (p:=⟨p,3,O⟩) f).trans c3
    have k4:=(d.cell (p:=⟨p,4,O⟩) f).trans c4
    have k5:=(d.cell (p:=⟨p,5,O⟩) f).trans c5
    have k6:=(d.cell (p:=⟨p,6,O⟩) f).trans c6
    have k7:=(d.cell (p:=⟨w.1.size+1,0,O⟩) ab).trans b0
    have l1:=d.size
    have an:p<y.1.size:=by omega
    have aq:w.1.size+1<y.1.size:=by omega
    have k:Nonempty (zj y.1.size y):=zj.some _ _
    have j:=fun(u:zj y.1.size y) b o h=>u.cell b o h
    go_wp2_with fail
    refine ze y.1.size (by kernel_rfl) (by kernel_rfl) ?_
    repeat(go_big_quiet_step (first|(go_at_call 138;exact Calls.later (N _) (ud ad _ ((ud z).trans (Below.mono (Subtype.property _) (ud z).size))))))
    refine wpQuiet_nil ?_
    rintro⟨Q,x⟩
    dsimp only
    clear j k k7 d
    have g:=zd ((ud z).trans (x.mono (ud z).size))
    have j0:=((ud g).cell (p:=⟨p,0,O⟩) f).trans c0
    have j1:=((ud g).cell (p:=⟨p,1,O⟩) f).trans c1
    have j2:=((ud g).cell (p:=⟨p,2,O⟩) f).trans c2
    have j3:=((ud g).cell (p:=⟨p,3,O⟩) f).trans c3
    have j4:=((ud g).cell (p:=⟨p,4,O⟩) f).trans c4
    have j5:=((ud g).cell (p:=⟨p,5,O⟩) f).trans c5
    have j6:=((ud g).cell (p:=⟨p,6,O⟩) f).trans c6
    have j7:=((ud g).cell (p:=⟨w.1.size,0,O⟩) aa).trans a0
    have l2:=(ud g).size
    have ao:p<Q.1.size:=by omega
    have ar:w.1.size<Q.1.size:=by omega
    have k:Nonempty (zj Q.1.size Q):=zj.some _ _
    have j:=fun(u:zj Q.1.size Q) b o h=>u.cell b o h
    clear x
    go_wp2_with fail
    refine ze Q.1.size (by kernel_rfl) (by kernel_rfl) ?_
    repeat(go_big_quiet_step (first|(go_at_call 138;exact Calls.later (N _) (ud ae _ ((ud g).trans (Below.mono (Subtype.property _) (ud g).size))))))
    refine wpQuiet_nil ?_
    rintro⟨T,ai⟩
    dsimp only
    clear j k j7
    have q:=zd ((ud g).trans (ai.mono (ud g).size))
    have m0:=((ud q).cell (p:=⟨w.1.size,2,O⟩) aa).trans a2
    have m1:=((ud q).cell (p:=⟨w.1.size+1,2,O⟩) ab).trans b2
    have l3:=(ud q).size
    have au:w.1.size<T.1.size:=by omega
    have ap:w.1.size+1<T.1.size:=by omega
    have k:Nonempty (zj T.1.size T):=zj.some _ _
    have j:=fun(u:zj T.1.size T) b o h=>u.cell b o h
    go_wp2_with fail
    refine ze T.1.size (by kernel_rfl) (by kernel_rfl) ?_
    repeat(go_big_quiet_step (fail))
    refine wpQuiet_nil ?_
    rintro⟨w4,aj⟩
    dsimp only
    clear j k
    go_wp2_with fail
    go_ret
    exact⟨zy (ud HR).symm,(ud l).trans (((ud q).trans (aj.mono (ud q).size)).mono (ud l).size)⟩
   ·have HR:=zd (on_3 (c:=m.c) V)
    have ag:(a.se !=b.se)=true:=by simp[V]
    clear C P V r hi v
    refine ze W.1.size (by kernel_rfl) (by kernel_rfl) ?_
    repeat(go_big_quiet_step (fail))
    refine wpQuiet_nil ?_
    rintro⟨y,d⟩
    dsimp only
    clear j k
    go_wp2_with fail
    go_ret
    exact⟨zy (ud HR).symm,(ud l).trans (d.mono (ud l).size)⟩
  ·have HR:=zd (on_2 (c:=m.c) (a:=a) (b:=b) (by rw[r];exact P))
   have af:(m.c.F i !=b.t)=true:=by simp[P]
   clear C P r hi v
   refine ze W.1.size (by kernel_rfl) (by kernel_rfl) ?_
   repeat(go_big_quiet_step (fail))
   refine wpQuiet_nil ?_
   rintro⟨y,d⟩
   dsimp only
   clear j k
   go_wp2_with fail
   go_ret
   exact⟨zy (ud HR).symm,(ud l).trans (d.mono (ud l).size)⟩
section
variable {α:Type} (lt:α->α->Bool)
def yl(x:α):List α->List α
 |[]=>[x]
 |y::r=>if lt x y then x::y::r else y::yl x r
def kr(x:α)(l:List α):Bool:=l.any (fun y=>lt x y)
def qU(x:α)(l:List α):List α:=if kr lt x l then yl lt x l else l
theorem YN{x:α}:∀{l:List α},kr lt x l=false->yl lt x l=l++[x]
 |[],_=>rfl
 |y::l,h=>by
  simp only[kr,List.any_cons,Bool.or_eq_false_iff]at h
  simp[yl,h.1,YN (l:=l) h.2]
theorem YO{x:α}:∀{l:List α} {y:α},kr lt x l=true->yl lt x (l++[y])=yl lt x l++[y]
 |[],y,h=>by simp[kr]at h
 |z::l,y,h=>by
  rw[List.cons_append,yl,yl]
  by_cases e:lt x z=true
  ·simp[e]
  ·have a:lt x z=false:=by simpa using e
   rw[a]
   simp only[Bool.false_eq_true,if_false,List.cons_append]
   rw[YO (l:=l) (y:=y) (by simpa[kr,a]using h)]
theorem VO{x:α}:∀{l:List α} {y:α},kr lt x l=false->lt x y=true->yl lt x (l++[y])=l++[x]++[y]
 |[],y,_,a=>by simp[yl,a]
 |z::l,y,h,a=>by
  simp only[kr,List.any_cons,Bool.or_eq_false_iff]at h
  simp only[List.cons_append,yl,h.1,Bool.false_eq_true,if_false]
  rw[VO (l:=l) (y:=y) h.2 a]
theorem ZW(x:α)(l:List α)(y:α):kr lt x (l++[y])=(kr lt x l||lt x y):=by simp[kr]
theorem zeO{x y:α}{l:List α}(h:kr lt x l=true):qU lt x (l++[y])=qU lt x l++[y]/\kr lt x (l++[y])=true:=by
 have a:kr lt x (l++[y])=true:=by rw[ZW,h];rfl
 exact⟨by simp only[qU,h,a,if_true];exact YO lt h,a⟩
theorem zcR{x y:α}{l:List α}(h:kr lt x l=false)(b:lt x y=true):qU lt x (l++[y])=qU lt x l++[x]++[y]/\kr lt x (l++[y])=true:=by
 have a:kr lt x (l++[y])=true:=by rw[ZW,h,b];rfl
 exact⟨by simp only[qU,h,a,if_true,Bool.false_eq_true,if_false];exact VO lt h b,a⟩
theorem zcS{x y:α}{l:List α}(h:kr lt x l=false)(b:lt x y=false):qU lt x (l++[y])=qU lt x l++[y]/\kr lt x (l++[y])=false:=by
 have a:kr lt x (l++[y])=false:=by rw[ZW,h,b];rfl
 exact⟨by simp[qU,h,a],a⟩
theorem K8(x:α)(l:List α):(qU lt x l).length<=l.length+1:=by
 unfold qU
 split
 ·have:∀l:List α,(yl lt x l).length=l.length+1:=fun l=>by
   induction l with
   |nil=>rfl
   |cons y r a=>rw[yl];split<;>simp[a]
  rw[this];omega
 ·omega
end
def xW(a b:Tk):Bool:=if a.kind≠b.kind then decide (a.kind<b.kind)else if a.s.t≠b.s.t then decide (a.s.t<b.s.t)else if a.s.se≠b.s.se then decide (a.s.se<b.s.se)else decide (a.s.wn<b.s.wn)
theorem zjT{a b:Tk}(h:¬a.kind=b.kind):xW a b=decide (a.kind<b.kind):=by simp[xW,h]
theorem zjU{a b:Tk}(h:a.kind=b.kind)(c:¬a.s.t=b.s.t):xW a b=decide (a.s.t<b.s.t):=by simp[xW,h,c]
theorem zjV{a b:Tk}(h:a.kind=b.kind)(c:a.s.t=b.s.t)(d:¬a.s.se=b.s.se):xW a b=decide (a.s.se<b.s.se):=by simp[xW,h,c,d]
theorem zjW{a b:Tk}(h:a.kind=b.kind)(c:a.s.t=b.s.t)(d:a.s.se=b.s.se):xW a b=decide (a.s.wn<b.s.wn):=by simp[xW,h,c,d]
theorem zgA(a b:Tk)(w:Y):
  Calls prog 280 #[.agg (tkV a).toArray,.agg (tkV b).toArray] w fun e w'=>e=.returned (.bool (xW a b))/\Z w.1.size w w':=by
 have h:∀k l,Z w.1.size w ((w.alloc k).alloc l):=fun k l=>((S _ _).alloc (N _) _).alloc (by simp) _
 have d:=zd h
 clear h
 have i:(tkV a).toArray=#[I J a.kind,I J a.s.t,I J a.s.se,I J a.s.wn,I J a.si,I J a.tc,I J a.rest,I J a.ep,I J a.num,I J a.slot,I J a.till]:=rfl
 have j:(tkV b).toArray=#[I J b.kind,I J b.s.t,I J b.s.se,I J b.s.wn,I J b.si,I J b.tc,I J b.rest,I J b.ep,I J b.num,I J b.slot,I J b.till]:=rfl
 rw[i,j]
 clear i j
 by_cases c:a.kind=b.kind
 ·have m:(a.kind !=b.kind)=false:=by simp[c]
  by_cases f:a.s.t=b.s.t
  ·have n:(a.s.t !=b.s.t)=false:=by simp[f]
   by_cases g:a.s.se=b.s.se
   ·have o:(a.s.se !=b.s.se)=false:=by simp[g]
    have HR:=zd (zjW c f g)
    clear c f g
    go_enter func280,ntmps280
    go_wp2_with fail
    go_ret
    exact⟨zy (ud HR).symm,ud d _ _⟩
   ·have o:(a.s.se !=b.s.se)=true:=by simp[g]
    have HR:=zd (zjV c f g)
    clear c f g
    go_enter func280,ntmps280
    go_wp2_with fail
    go_ret
    exact⟨zy (ud HR).symm,ud d _ _⟩
  ·have n:(a.s.t !=b.s.t)=true:=by simp[f]
   have HR:=zd (zjU c f)
   clear c f
   go_enter func280,ntmps280
   go_wp2_with fail
   go_ret
   exact⟨zy (ud HR).symm,ud d _ _⟩
 ·have m:(a.kind !=b.kind)=true:=by simp[c]
  have HR:=zd (zjT c)
  clear c
  go_enter func280,ntmps280
  go_wp2_with fail
  go_ret
  exact⟨zy (ud HR).symm,ud d _ _⟩
theorem Tryz.infoTask:(prog.info? 294).map (fun i=>(i.zero,i.size,i.bytes))=U (U (.agg #[I J 0,I J 0,I J 0,I J 0,I J 0,I J 0,I J 0,I J 0,I J 0,I J 0,I J 0]),11,88):=by kernel_rfl
def jF(f:Tk):Obj:=.cells #[I J f.kind,I J f.s.t,I J f.s.se,I J f.s.wn,I J f.si,I J f.tc,I J f.rest,I J f.ep,I J f.num,I J f.slot,I J f.till] 294 (0,0)
theorem QX{w:Y}{ops:Array Oper}{rest:List Oper}{o:Oper}{a:Act}{Q:Exit->Act->Y->Prop}(e:o.guard=O)(s x:Operand)
  (p:o.op=.call {callee:=.builtin .append,args:=#[s,x],argTypes:=#[226,226]}) (base:Nat) (v:G) (l:List Tk) (f:Tk) (q:a.eval s=v) (b:w.ownsRow base 294 11 v l.length (l.flatMap tkV))
  (c:Nat) (r:a.eval x=.slice (U ⟨c,0,O⟩) 1 1) (d:w.1[c]?=U (jF f)) (t:l.length<=1099511627776) (hbase:base<=w.1.size)
  (h:∀g cap w',w'.ownsRow base 294 11 (.slice (U ⟨g,0,O⟩) (l.length+1) cap) (l++[f]).length ((l++[f]).flatMap tkV)->w'.ownsRow base 294 11 v l.length (l.flatMap tkV)->w.grownBy w' v.ownBlock->(v.ownBlock=U g\/g=w.1.size)->g<w'.1.size->wpList prog ops Q rest (a.put o.dst (.slice (U ⟨g,0,O⟩) (l.length+1) cap)) w'):wpList prog ops Q (o::rest) a w:=
 zJ e s x 226 p base 294 _ 11 88 underlying226 Tryz.infoTask rfl (by decide) v l.length (l.flatMap tkV) q b ⟨c,0,O⟩ 1 1 (tkV f) r rfl
  (World.news_of_block (cs:=(tkV f).toArray) d) (zfL f) (by decide) (by simp only[maxLen];omega) (by omega) hbase
  fun g cap w' i j k m n=>h g cap w' (KG i) j k m n
theorem zdx{w:Y}{B:Nat}{e:TypeId}{v:G}{l:List Tk}(h:w.ownsRow B e 11 v l.length (l.flatMap tkV)){i:Nat}{x:Tk}(b:l[i]?=U x):
  ∃g cap,v=.slice (U ⟨g,0,O⟩) l.length cap/\B<=g/\g<w.1.size/\w.cell? ⟨g,i*11,O⟩=U (I J x.kind)/\w.cell? ⟨g,i*11+1,O⟩=U (I J x.s.t)/\w.cell? ⟨g,i*11+2,O⟩=U (I J x.s.se)/\w.cell? ⟨g,i*11+3,O⟩=U (I J x.s.wn)/\w.cell? ⟨g,i*11+4,O⟩=U (I J x.si)/\w.cell? ⟨g,i*11+5,O⟩=U (I J x.tc)/\w.cell? ⟨g,i*11+6,O⟩=U (I J x.rest)/\w.cell? ⟨g,i*11+7,O⟩=U (I J x.ep)/\w.cell? ⟨g,i*11+8,O⟩=U (I J x.num)/\w.cell? ⟨g,i*11+9,O⟩=U (I J x.slot)/\w.cell? ⟨g,i*11+10,O⟩=U (I J x.till):=by
 have d:i<l.length:=(List.getElem?_eq_some_iff.1 b).1
 obtain⟨g,cap,hv,c,a⟩:=h.form (by omega)
 rw[hv]at h
 have e:∀j,j<11->w.cell? ⟨g,i*11+j,O⟩=(tkV x)[j]?:=fun j k=>by
  rw[h.cellAt _ (by omega)];exact qw (f:=tkV) zaT l i x j b k
 exact⟨g,cap,hv,c,a,e 0 (by omega),e 1 (by omega),e 2 (by omega),e 3 (by omega),e 4 (by omega),e 5 (by omega),e 6 (by omega),e 7 (by omega),e 8 (by omega),e 9 (by omega),e 10 (by omega)⟩
theorem yF{w:Y}{b b':Nat}{e:TypeId}{size:Nat}{v:G}{n:Nat}{xs:List G}(h:w.ownsRow b e size v n xs)(d:b'<=b):w.ownsRow b' e size v n xs:=by
 refine⟨h.1,?_⟩
 rcases h.2 with c|⟨g,cap,a,rfl,f,r⟩
 ·exact .inl c
 ·exact .inr ⟨g,cap,a,rfl,Nat.le_trans d f,r⟩
theorem zfM{l:List Tk}{i:Nat}{x:Tk}(h:l[i]?=U x):l.take (i+1)=l.take i++[x]:=by
 obtain⟨a,b⟩:=List.getElem?_eq_some_iff.1 h
 rw[List.take_succ_eq_append_getElem a,b]
theorem ZG{w:Y}{g:Nat}{f:Tk}(h:w.1[g]?=U (jF f)):w.cell? ⟨g,0,O⟩=U (I J f.kind)/\w.cell? ⟨g,1,O⟩=U (I J f.s.t)/\w.cell? ⟨g,2,O⟩=U (I J f.s.se)/\w.cell? ⟨g,3,O⟩=U (I J f.s.wn)/\w.cell? ⟨g,4,O⟩=U (I J f.si)/\w.cell? ⟨g,5,O⟩=U (I J f.tc)/\w.cell? ⟨g,6,O⟩=U (I J f.rest)/\w.cell? ⟨g,7,O⟩=U (I J f.ep)/\w.cell? ⟨g,8,O⟩=U (I J f.num)/\w.cell? ⟨g,9,O⟩=U (I J f.slot)/\w.cell? ⟨g,10,O⟩=U (I J f.till):=by
 refine⟨?_,?_,?_,?_,?_,?_,?_,?_,?_,?_,?_⟩<;>rw[xd h]<;>rfl
theorem zhC(B:Nat)(l:List Tk)(v:G)(t:Tk)(w:Y)(hl:l.length<=1000000000000)(h:w.ownsRow B 294 11 v l.length (l.flatMap tkV)):
  Calls prog 278 #[v,.agg #[I J t.kind,I J t.s.t,I J t.s.se,I J t.s.wn,I J t.si,I J t.tc,I J t.rest,I J t.ep,I J t.num,I J t.slot,I J t.till]] w fun e w'=>∃v',e=.returned v'/\w'.ownsRow w.1.size 294 11 v' (yl xW t l).length ((yl xW t l).flatMap tkV)/\Z w.1.size w w':=by
 obtain⟨a0,aC,hv⟩:=zm h
 subst hv
 have H:=zd h
 have aH:w.1.size<(w.alloc (jF t)).1.size:=by rw[zG];omega
 have an:Z w.1.size w (w.alloc (jF t)):=(S _ _).alloc (N _) _
 have a1:=zr w (jF t)
 have a6:=zd a1
 have HZ:=zd (zG w (jF t))
 clear h a1
 go_enter func278,ntmps278
 go_wp2_with fail
 have a8:(w.alloc (jF t))=(w.alloc (.cells #[I J t.kind,I J t.s.t,I J t.s.se,I J t.s.wn,I J t.si,I J t.tc,I J t.rest,I J t.ep,I J t.num,I J t.slot,I J t.till] 294)):=rfl
 rw[<-a8]
 clear a8
 generalize(w.alloc (jF t))=W at*
 go_loopw [5,6,7,8] (fun z b y _ wr=>∃(i:Nat),i<=l.length/\y=I J i/\b=.bool (kr xW t (l.take i))/\wr.ownsRow (w.1.size+1) 294 11 z (qU xW t (l.take i)).length ((qU xW t (l.take i)).flatMap tkV)/\Z (w.1.size+1) W wr) (fun _ _ y _ _=>l.length-(intOf y).toNat)
 case atStart=>exact⟨0,M _,rfl,rfl,World.ownsRow_nil _ _ _ _,S _ _⟩
 case round=>
  obtain⟨i,hi,rfl,rfl,hz,hb⟩:=hrel
  obtain⟨az,cz,ax⟩:=zm hz
  subst ax
  have ab:Z w.1.size w wr:=an.trans (hb.mono (by omega))
  have HB:=zd hb
  have a2:=zd ab
  have C:=zd hz
  have q:=(hb.block w.1.size (by omega)).trans (ud a6)
  obtain⟨t0,t1,t2,t3,t4,t5,t6,t7,t8,t9,ay⟩:=ZG q
  have al:=zd q
  have aw:w.1.size<wr.1.size:=zb q
  clear q hb ab hz
  by_cases ap:i<l.length
  ·obtain⟨x,hx⟩:=xz ap
   obtain⟨g,aB,av,aK,n,x0,x1,x2,x3,x4,x5,x6,x7,x8,x9,ai⟩:=zdx (zM (ud H) (ud a2)) hx
   injection av with af ag ah
   subst af
   have aL:g<w.1.size:=by
    obtain⟨g',c',au,_,aF,_⟩:=zdx (ud H) hx
    injection au with h1
    injection h1 with h1
    injection h1 with h1
    omega
   have ae:=zfM hx
   have aM:(i:Int)<l.length:=by omega
   have ar:Nonempty (zj wr.1.size wr):=zj.some _ _
   have aq:=fun(u:zj wr.1.size wr) b o h=>u.cell b o h
   have ad:=K8 xW t (l.take i)
   rw[List.length_take,Nat.min_eq_left hi]at ad
   have am:=zd (fun(u:zj wr.1.size wr)=>zgA t x u.1)
   have A:=zd ae
   clear hx ag ah ae
   go_wp2_with fail
   refine ze wr.1.size (by kernel_rfl) (by kernel_rfl) ?_
   repeat(go_big_quiet_step (first|(go_at_call 280;exact Calls.later (N _) (ud am _))))
   refine wpQuiet_nil ?_
   rintro⟨w1,d⟩
   dsimp only
   clear aq ar
   have aE:=d.size
   have FV:=zd (zM (ud C) d)
   have FB:=zd ((ud HB).trans (d.mono (by omega)))
   have z0:=(d.cell (p:=⟨g,i*11,O⟩) n).trans x0
   have z1:=(d.cell (p:=⟨g,i*11+1,O⟩) n).trans x1
   have z2:=(d.cell (p:=⟨g,i*11+2,O⟩) n).trans x2
   have z3:=(d.cell (p:=⟨g,i*11+3,O⟩) n).trans x3
   have z4:=(d.cell (p:=⟨g,i*11+4,O⟩) n).trans x4
   have z5:=(d.cell (p:=⟨g,i*11+5,O⟩) n).trans x5
   have z6:=(d.cell (p:=⟨g,i*11+6,O⟩) n).trans x6
   have z7:=(d.cell (p:=⟨g,i*11+7,O⟩) n).trans x7
   have z8:=(d.cell (p:=⟨g,i*11+8,O⟩) n).trans x8
   have z9:=(d.cell (p:=⟨g,i*11+9,O⟩) n).trans x9
   have aj:=(d.cell (p:=⟨g,i*11+10,O⟩) n).trans ai
   have aI:g<w1.1.size:=by omega
   have aN:w.1.size<w1.1.size:=by omega
   have q:=(d.block _ aw).trans (ud al)
   obtain⟨u0,u1,u2,u3,u4,u5,u6,u7,u8,u9,a5⟩:=ZG q
   have aA:=zd q
   clear q x0 x1 x2 x3 x4 x5 x6 x7 x8 x9 ai t0 t1 t2 t3 t4 t5 t6 t7 t8 t9 ay
   cases c:kr xW t (l.take i)
   ·cases X:xW t x
    ·have E:=zd (zcS xW c X)
     clear c X u0 u1 u2 u3 u4 u5 u6 u7 u8 u9 a5
     generalize qU xW t (l.take i)=P at*
     go_wp2_with(first|(at_builtin;refine QX rfl _ _ rfl (w.1.size+1) _ P x rfl ((ud FV).alloc _) w1.1.size rfl (zr _ (jF x)) ?hll ?hbb ?_;(case hll=>omega);(case hbb=>(rw[zG];omega));intro g2 K w3 j Q f a3 L)|fail)
     have r:Z (w.1.size+1) W w3:=((ud FB).alloc (by omega) _).grown f (by rw[zG];omega) (fun k V=>((ud FV).lt k V).1)
     exact⟨⟨i+1,by omega,by go_num,by rw[ud A,(ud E).2],by rw[ud A,(ud E).1];exact j,r⟩,by simp[intOf];omega⟩
    ·have E:=zd (zcR xW c X)
     clear c X
     generalize qU xW t (l.take i)=P at*
     go_wp2_with(first
      |(at_builtin;refine QX rfl _ _ rfl (w.1.size+1) _ P t rfl ((ud FV).alloc _) w1.1.size rfl (zr _ (jF t)) ?hll ?hbb ?_;(case hll=>omega);(case hbb=>(rw[zG];omega));intro g1 aD w2 T a4 m a9 aG;have gb:∀k,k<w.1.size+1->w2.1[k]?=w1.1[k]?:=(fun k V=>(m.block k (by rw[zG];omega) (fun e=>by have:=((ud FV).lt k e.symm).1;omega)).trans (Below.heap_alloc _ _ _ (by omega)));have aa:Z (w.1.size+1) W w2:=(((ud FB).alloc (by omega) _).grown m (by rw[zG];omega) (fun k V=>((ud FV).lt k V).1));have aO:w1.1.size<w2.1.size:=(by have:=m.size;rw[zG]at this;omega);have aJ:g<w2.1.size:=(by omega);have y0:=(World.cell?_of_block (a:=⟨g,i*11,O⟩) (gb g (by omega))).trans z0;have y1:=(World.cell?_of_block (a:=⟨g,i*11+1,O⟩) (gb g (by omega))).trans z1;have y2:=(World.cell?_of_block (a:=⟨g,i*11+2,O⟩) (gb g (by omega))).trans z2;have y3:=(World.cell?_of_block (a:=⟨g,i*11+3,O⟩) (gb g (by omega))).trans z3;have y4:=(World.cell?_of_block (a:=⟨g,i*11+4,O⟩) (gb g (by omega))).trans z4;have y5:=(World.cell?_of_block (a:=⟨g,i*11+5,O⟩) (gb g (by omega))).trans z5;have y6:=(World.cell?_of_block (a:=⟨g,i*11+6,O⟩) (gb g (by omega))).trans z6;have y7:=(World.cell?_of_block (a:=⟨g,i*11+7,O⟩) (gb g (by omega))).trans z7;have y8:=(World.cell?_of_block (a:=⟨g,i*11+8,O⟩) (gb g (by omega))).trans z8;have y9:=(World.cell?_of_block (a:=⟨g,i*11+9,O⟩) (gb g (by omega))).trans z9;have aP:=(World.cell?_of_block (a:=⟨g,i*11+10,O⟩) (gb g (by omega))).trans aj;have ak:=zd aa;have F:=zd T;clear gb aa T a4 m a9 z0 z1 z2 z3 z4 z5 z6 z7 z8 z9 aj u0 u1 u2 u3 u4 u5 u6 u7 u8 u9 a5)
      |(at_builtin;refine QX rfl _ _ rfl (w.1.size+1) _ (P++[t]) x rfl ((ud F).alloc _) w2.1.size rfl (zr _ (jF x)) ?hll ?hbb ?_;(case hll=>(rw[List.length_append];simp;omega));(case hbb=>(rw[zG];omega));intro g2 K w3 j Q f a3 L)
      |fail)
     have ac:(P++[t]).length+1=P.length+1+1:=by rw[List.length_append];rfl
     rw[ac]at j
     have r:Z (w.1.size+1) W w3:=((ud ak).alloc (by omega) _).grown f (by rw[zG];omega) (fun k V=>((ud F).lt k V).1)
     exact⟨⟨i+1,by omega,by go_num,by rw[ud A,(ud E).2],by rw[ud A,(ud E).1];exact j,r⟩,by simp[intOf];omega⟩
   ·have E:=zd (zeO xW (y:=x) c)
    clear c u0 u1 u2 u3 u4 u5 u6 u7 u8 u9 a5
    generalize qU xW t (l.take i)=P at*
    go_wp2_with(first|(at_builtin;refine QX rfl _ _ rfl (w.1.size+1) _ P x rfl ((ud FV).alloc _) w1.1.size rfl (zr _ (jF x)) ?hll ?hbb ?_;(case hll=>omega);(case hbb=>(rw[zG];omega));intro g2 K w3 j Q f a3 L)|fail)
    have r:Z (w.1.size+1) W w3:=((ud FB).alloc (by omega) _).grown f (by rw[zG];omega) (fun k V=>((ud FV).lt k V).1)
    exact⟨⟨i+1,by omega,by go_num,by rw[ud A,(ud E).2],by rw[ud A,(ud E).1];exact j,r⟩,by simp[intOf];omega⟩
  ·have ao:i=l.length:=by omega
   have hT:l.take i=l:=by rw[ao,List.take_length]
   have ad:=K8 xW t l
   rw[hT]at C
   rw[hT]
   cases c:kr xW t l
   ·have E:=zd (YN xW c)
    have a7:=zd (show qU xW t l=l by simp[qU,c])
    rw[ud a7]at C
    clear c
    rw[ud a7]
    go_wp2_with(first|(at_builtin;refine QX rfl _ _ rfl (w.1.size+1) _ l t rfl ((ud C).alloc _) wr.1.size rfl (zr _ (jF t)) ?hll ?hbb ?_;(case hll=>omega);(case hbb=>(rw[zG];omega));intro g2 K w3 j Q f a3 L)|fail)
    have r:Z w.1.size w w3:=((ud a2).alloc (by omega) _).grown f (by rw[zG];omega) (fun k V=>by have:=((ud C).lt k V).1;omega)
    go_ret
    exact⟨_,rfl,by rw[ud E];exact yF j (by omega),r⟩
   ·have E:=zd (show qU xW t l=yl xW t l by simp[qU,c])
    clear c
    go_wp2_with fail
    go_ret
    exact⟨_,rfl,by rw[<-ud E];exact yF (ud C) (by omega),ud a2⟩
def zjw(c:Cf)(s:Sg):Prop:= -1<=s.t/\s.t<c.n/\0<=s.wn/\s.wn<=100000
def yT(m:RM)(s:Sg):Bool:=!(s.t== -1)&&!vv s m.pub&&!vv s m.gone&&!decide (m.now-m.c.la<m.c.end s)
def qF(m:RM)(s:Sg):Bool:=!vv s m.gone&&!(decide (0<=s.t)&&!vv s m.pub)&&!decide (m.now<m.c.end s+m.c.keep s.t)
def XQ(m:RM)(s x:Sg):Bool:=onB m.c s x&&decide (0<=x.t)&&!vv x m.pub
def ZY(m:RM)(s x:Sg):Bool:=onB m.c x s&&!vv x m.pub&&!vv x m.gone
def qt(m:RM)(s:Sg)(l:List Sg):Bool:=yT m s&&l.all (fun x=>!XQ m s x)
def qJ(m:RM)(s:Sg)(l:List Sg):Bool:=qF m s&&l.all (fun x=>!ZY m s x)
theorem YC{p:Sg->Bool}{l:List Sg}(h:∀j x,j<l.length->l[j]?=U x->p x=true):l.all p=true:=by
 rw[List.all_eq_true];intro x b
 obtain⟨j,a⟩:=List.getElem?_of_mem b
 exact h j x (List.getElem?_eq_some_iff.1 a).1 a
theorem zdO{p:Sg->Bool}{l:List Sg}{i:Nat}{x:Sg}(h:l[i]?=U x)(b:p x=false):l.all p=false:=by
 rw[Bool.eq_false_iff];intro a;rw[List.all_eq_true]at a
 rw[a x (List.mem_of_getElem? h)]at b;cases b
theorem jx{p:Sg->Bool}{l:List Sg}{i:Nat}{x:Sg}(h:∀j y,j<i->l[j]?=U y->p y=true)(c:l[i]?=U x)(b:p x=true):∀j y,j<i+1->l[j]?=U y->p y=true:=fun j y d a=>by
 by_cases e:j=i
 ·subst e;rw[c]at a;cases a;exact b
 ·exact h j y (by omega) a
theorem zcY{B B2:Nat}{w:Y}{p:Nat}{m:RM}{tv nv pv gv kv:G}(h:zQ B w p m tv nv pv gv kv)(hc:m.c.ok)(aY:m.gone.length<=1000000000000)(b5:m.pub.length<=1000000000000)(aw:0<=m.now/\m.now<=100000)(s:Sg)(hs:zjw m.c s)(l:List Sg)(v:G)(hl:l.length<=10000000000)(a9:w.ownsRow B2 287 3 v l.length (l.flatMap sgV))(aL:∀x∈l,zjw m.c x):
  Calls prog 277 #[.pointer (U ⟨p,0,O⟩),I J 1,.agg #[I J s.t,I J s.se,I J s.wn],v] w fun e w'=>e=.returned (.bool (qt m s l))/\Z w.1.size w w':=by
 obtain⟨a2,a3,ai,aj⟩:=hs
 obtain⟨al,cl,hv⟩:=zm a9
 subst hv
 obtain⟨ag,cg,aJ⟩:=zm h.grow
 subst aJ
 obtain⟨ap,cp,aM⟩:=zm h.prow
 subst aM
 obtain⟨aU,aV⟩:=hc.la
 obtain⟨b3,b4⟩:=aw
 obtain⟨b1,b2⟩:=hc.keeps a2 a3
 obtain⟨aW,aX⟩:=hc.ends a2 a3 ai aj
 have y0:=zr w (.cells #[I J s.t,I J s.se,I J s.wn] 287)
 have a1:Z w.1.size w (w.alloc (.cells #[I J s.t,I J s.se,I J s.wn] 287)):=(S _ _).alloc (N _) _
 have aO:=zG w (.cells #[I J s.t,I J s.se,I J s.wn] 287)
 have H:=zd h
 have ao:=zd a9
 clear h a9
 go_enter func277,ntmps277
 go_wp2_with fail
 generalize(w.alloc (.cells #[I J s.t,I J s.se,I J s.wn] 287))=W at*
 have K:=zd (fun(u:Y) (A:Z W.1.size W u)=>(ud H).later (a1.trans (A.mono a1.size)))
 have aH:=zd (fun(u:Y) (A:Z W.1.size W u)=>zM (ud ao) (a1.trans (A.mono a1.size)))
 have HF:Hid (∀(u:Y),Z W.1.size W u->u.cell? ⟨p,9,O⟩=U (.slice ap m.pub.length cp)/\u.cell? ⟨p,10,O⟩=U (.slice ag m.gone.length cg)/\u.cell? ⟨p,7,O⟩=U (I J m.now)/\u.cell? ⟨p,2,O⟩=U (I J m.c.la)/\u.cell? ⟨w.1.size,0,O⟩=U (I J s.t)/\u.cell? ⟨w.1.size,1,O⟩=U (I J s.se)/\u.cell? ⟨w.1.size,2,O⟩=U (I J s.wn)/\p<u.1.size/\w.1.size<u.1.size):=fun u A=>by
  have hr:=ud K u A
  obtain⟨q7,q8,q9,aR,b6,b7,b8⟩:=hr.rest
  obtain⟨c0,c1,c2,c3,c4,c5,c6⟩:=hr.conf
  have hb:=(A.block w.1.size (by omega)).trans y0
  exact⟨q9,aR,q7,c2,by rw[xd hb];rfl,by rw[xd hb];rfl,by rw[xd hb];rfl,hr.lt,zb hb⟩
 have z:=zd a1
 have aa:=zd (S W.1.size W)
 have HP:=zd (fun(u:Y) (A:Z W.1.size W u)=>xH B m.pub _ s u (by omega) (ud K u A).prow)
 have HG:=zd (fun(u:Y) (A:Z W.1.size W u)=>xH B m.gone _ s u (by omega) (ud K u A).grow)
 have HE:=zd (fun(u:Y) (A:Z W.1.size W u)=>zae (ud K u A) hc s a2 a3 ai aj)
 have HK:=zd (fun(u:Y) (A:Z W.1.size W u)=>zbv (ud K u A) hc s.t a2 a3)
 clear y0 a1 aO
 obtain⟨Q,k,P,L,T,V,s2,d,f⟩:=ud HF W (S _ _)
 have q:Nonempty (zj W.1.size W):=zj.some _ _
 have n:=fun(u:zj W.1.size W) b o h=>u.cell b o h
 go_wp2_with fail
 refine ze W.1.size (by kernel_rfl) (by kernel_rfl) ?_
 repeat(go_big_quiet_step (first|(go_at_call 218;exact Calls.later (N _) (ud HP _ ((ud aa).trans (Below.mono (Subtype.property _) (ud aa).size))))))
 refine wpQuiet_nil ?_
 rintro⟨w1,a⟩
 dsimp only
 clear n q
 have a4:=zd ((ud aa).trans (a.mono (ud aa).size))
 clear a
 clear Q k P L T V s2 d f
 obtain⟨Q,k,P,L,T,V,s2,d,f⟩:=ud HF w1 (ud a4)
 have q:Nonempty (zj w1.1.size w1):=zj.some _ _
 have n:=fun(u:zj w1.1.size w1) b o h=>u.cell b o h
 go_wp2_with fail
 refine ze w1.1.size (by kernel_rfl) (by kernel_rfl) ?_
 repeat(go_big_quiet_step (first|(go_at_call 218;exact Calls.later (N _) (ud HG _ ((ud a4).trans (Below.mono (Subtype.property _) (ud a4).size))))))
 refine wpQuiet_nil ?_
 rintro⟨w2,a⟩
 dsimp only
 clear n q
 have ab:=zd ((ud a4).trans (a.mono (ud a4).size))
 clear a
 clear Q k P L T V s2 d f
 obtain⟨Q,k,P,L,T,V,s2,d,f⟩:=ud HF w2 (ud ab)
 go_wp2_with fail
 refine(ud HE w2 (ud ab)).mono ?_
 rintro e r ⟨rfl,a⟩
 have C:=zd ((ud ab).trans (a.mono (ud ab).size))
 clear a
 clear Q k P L T V s2 d f
 obtain⟨Q,k,P,L,T,V,s2,d,f⟩:=ud HF r (ud C)
 have aS:=zd (show True from trivial)
 generalize av:m.c.end s=en at*
 have an:=zd av
 clear av
 cases e0:(s.t== -1)
 case true=>
  have HR:=zd (show qt m s l=false by simp[qt,yT,e0])
  try rw[e0]
  have q:Nonempty (zj r.1.size r):=zj.some _ _
  have n:=fun(u:zj r.1.size r) b o h=>u.cell b o h
  go_wp2_with fail
  refine ze r.1.size (by kernel_rfl) (by kernel_rfl) ?_
  repeat(go_big_quiet_step (fail))
  refine wpQuiet_nil ?_
  rintro⟨w4,a⟩
  dsimp only
  clear n q
  have F:=zd ((ud C).trans (a.mono (ud C).size))
  clear a
  go_wp2_with fail
  go_ret
  exact⟨zy (ud HR).symm,(ud z).trans ((ud F).mono (ud z).size)⟩
 cases e1:vv s m.pub
 case true=>
  have HR:=zd (show qt m s l=false by simp[qt,yT,e1])
  try rw[e1]
  have q:Nonempty (zj r.1.size r):=zj.some _ _
  have n:=fun(u:zj r.1.size r) b o h=>u.cell b o h
  go_wp2_with fail
  refine ze r.1.size (by kernel_rfl) (by kernel_rfl) ?_
  repeat(go_big_quiet_step (fail))
  refine wpQuiet_nil ?_
  rintro⟨w4,a⟩
  dsimp only
  clear n q
  have F:=zd ((ud C).trans (a.mono (ud C).size))
  clear a
  go_wp2_with fail
  go_ret
  exact⟨zy (ud HR).symm,(ud z).trans ((ud F).mono (ud z).size)⟩
 cases e2:vv s m.gone
 case true=>
  have HR:=zd (show qt m s l=false by simp[qt,yT,e2])
  try rw[e2]
  have q:Nonempty (zj r.1.size r):=zj.some _ _
  have n:=fun(u:zj r.1.size r) b o h=>u.cell b o h
  go_wp2_with fail
  refine ze r.1.size (by kernel_rfl) (by kernel_rfl) ?_
  repeat(go_big_quiet_step (fail))
  refine wpQuiet_nil ?_
  rintro⟨w4,a⟩
  dsimp only
  clear n q
  have F:=zd ((ud C).trans (a.mono (ud C).size))
  clear a
  go_wp2_with fail
  go_ret
  exact⟨zy (ud HR).symm,(ud z).trans ((ud F).mono (ud z).size)⟩
 by_cases e3:m.now-m.c.la<en
 case pos=>
  have HR:=zd (show qt m s l=false by simp[qt,yT,ud an,e3])
  try rw[e1]
  try rw[e2]
  have q:Nonempty (zj r.1.size r):=zj.some _ _
  have n:=fun(u:zj r.1.size r) b o h=>u.cell b o h
  go_wp2_with fail
  refine ze r.1.size (by kernel_rfl) (by kernel_rfl) ?_
  repeat(go_big_quiet_step (fail))
  refine wpQuiet_nil ?_
  rintro⟨w4,a⟩
  dsimp only
  clear n q
  have F:=zd ((ud C).trans (a.mono (ud C).size))
  clear a
  go_wp2_with fail
  go_ret
  exact⟨zy (ud HR).symm,(ud z).trans ((ud F).mono (ud z).size)⟩
 have aG:=zd (show yT m s=true by simp[yT,e0,e1,e2,ud an,e3])
 try rw[e1]
 try rw[e2]
 have q:Nonempty (zj r.1.size r):=zj.some _ _
 have n:=fun(u:zj r.1.size r) b o h=>u.cell b o h
 go_wp2_with fail
 refine ze r.1.size (by kernel_rfl) (by kernel_rfl) ?_
 repeat(go_big_quiet_step (fail))
 refine wpQuiet_nil ?_
 rintro⟨w4,a⟩
 dsimp only
 clear n q
 have F:=zd ((ud C).trans (a.mono (ud C).size))
 clear a
 clear Q k P L T V s2 d f
 go_wp2_with fail
 go_loopw [12,13,14,15,16,17] (fun y _ _ _ _ _ wr=>∃(i:Nat),i<=l.length/\y=I J i/\(∀j x,j<i->l[j]?=U x->(!XQ m s x)=true)/\Z W.1.size W wr) (fun y _ _ _ _ _ _=>l.length-(intOf y).toNat)
 case atStart=>exact⟨0,M _,rfl,fun j x hj=>absurd hj (Nat.not_lt_zero _),ud F⟩
 case round=>
  obtain⟨i,hi,rfl,ha,au⟩:=hrel
  have HA:=zd ha
  have a7:=zd au
  clear ha au
  obtain⟨Q,k,P,L,T,V,s2,d,f⟩:=ud HF wr (ud a7)
  by_cases aK:i<l.length
  ·obtain⟨x,hx⟩:=xz aK
   obtain⟨aA,aB,aP,aQ⟩:=aL x (List.mem_of_getElem? hx)
   obtain⟨g,aT,aN,_,aZ,x0,x1,x2⟩:=zaF (ud aH wr (ud a7)) hx
   injection aN with ax ay az
   subst ax
   have b0:(i:Int)<l.length:=by omega
   have HX:=zd hx
   clear hx ay az
   go_wp2_with fail
   have aI:=zG wr (.cells #[I J x.t,I J x.se,I J x.wn] 287)
   have ar:=zr wr (.cells #[I J x.t,I J x.se,I J x.wn] 287)
   have E:=zd ((ud a7).alloc (ud a7).size (.cells #[I J x.t,I J x.se,I J x.wn] 287))
   generalize(wr.alloc (.cells #[I J x.t,I J x.se,I J x.wn] 287))=X at*
   have a8:Hid (∀(u:Y),Z X.1.size X u->u.cell? ⟨wr.1.size,0,O⟩=U (I J x.t)/\u.cell? ⟨wr.1.size,1,O⟩=U (I J x.se)/\u.cell? ⟨wr.1.size,2,O⟩=U (I J x.wn)/\wr.1.size<u.1.size):=fun u A=>by
    have hb:=(A.block wr.1.size (by omega)).trans ar
    exact⟨by rw[xd hb];rfl,by rw[xd hb];rfl,by rw[xd hb];rfl,zb hb⟩
   have aF:=zd (fun(u:Y) (A:Z W.1.size W u)=>xH B m.pub _ x u (by omega) (ud K u A).prow)
   have aC:=zd (fun(u:Y) (A:Z W.1.size W u)=>xH B m.gone _ x u (by omega) (ud K u A).grow)
   have aD:=zd (fun(u:Y) (A:Z W.1.size W u)=>zbE (ud K u A) hc s x a2 a3 aA aB aP aQ)
   have aE:=zd (fun(u:Y) (A:Z W.1.size W u)=>zbE (ud K u A) hc x s aA aB a2 a3 ai aj)
   have ah:=zd (S X.1.size X)
   clear aI ar x0 x1 x2
   clear Q k P L T V s2 d f
   obtain⟨Q,k,P,L,T,V,s2,d,f⟩:=ud HF X (ud E)
   obtain⟨x0,x1,x2,a0⟩:=ud a8 X (ud ah)
   have q:Nonempty (zj X.1.size X):=zj.some _ _
   have n:=fun(u:zj X.1.size X) b o h=>u.cell b o h
   go_wp2_with fail
   refine ze X.1.size (by kernel_rfl) (by kernel_rfl) ?_
   repeat(go_big_quiet_step (first|(go_at_call 218;exact Calls.later (N _) (ud aF _ ((ud E).trans (Below.mono (Subtype.property _) (ud E).size))))))
   refine wpQuiet_nil ?_
   rintro⟨w5,a⟩
   dsimp only
   clear n q
   have ac:=zd ((ud ah).trans (a.mono (ud ah).size))
   clear a
   have af:=zd ((ud E).trans ((ud ac).mono (ud E).size))
   clear x0 x1 x2 a0
   clear Q k P L T V s2 d f
   obtain⟨Q,k,P,L,T,V,s2,d,f⟩:=ud HF w5 (ud af)
   obtain⟨x0,x1,x2,a0⟩:=ud a8 w5 (ud ac)
   have q:Nonempty (zj w5.1.size w5):=zj.some _ _
   have n:=fun(u:zj w5.1.size w5) b o h=>u.cell b o h
   go_wp2_with fail
   refine ze w5.1.size (by kernel_rfl) (by kernel_rfl) ?_
   repeat(go_big_quiet_step (first|(go_at_call 218;exact Calls.later (N _) (ud aC _ ((ud af).trans (Below.mono (Subtype.property _) (ud af).size))))))
   refine wpQuiet_nil ?_
   rintro⟨w6,a⟩
   dsimp only
   clear n q
   have ad:=zd ((ud ac).trans (a.mono (ud ac).size))
   clear a
   have ak:=zd ((ud E).trans ((ud ad).mono (ud E).size))
   clear x0 x1 x2 a0
   clear Q k P L T V s2 d f
   obtain⟨Q,k,P,L,T,V,s2,d,f⟩:=ud HF w6 (ud ak)
   obtain⟨x0,x1,x2,a0⟩:=ud a8 w6 (ud ad)
   go_wp2_with fail
   refine(ud aD w6 (ud ak)).mono ?_
   rintro e w7 ⟨rfl,a⟩
   have ae:=zd ((ud ad).trans (a.mono (ud ad).size))
   have am:=zd ((ud E).trans ((ud ae).mono (ud E).size))
   clear a x0 x1 x2 a0
   clear Q k P L T V s2 d f
   obtain⟨Q,k,P,L,T,V,s2,d,f⟩:=ud HF w7 (ud am)
   obtain⟨x0,x1,x2,a0⟩:=ud a8 w7 (ud ae)
   go_wp2_with fail
   refine(ud aE w7 (ud am)).mono ?_
   rintro e w8 ⟨rfl,a⟩
   have aq:=zd ((ud ae).trans (a.mono (ud ae).size))
   have a5:=zd ((ud E).trans ((ud aq).mono (ud E).size))
   clear a x0 x1 x2 a0
   clear Q k P L T V s2 d f
   obtain⟨Q,k,P,L,T,V,s2,d,f⟩:=ud HF w8 (ud a5)
   obtain⟨x0,x1,x2,a0⟩:=ud a8 w8 (ud aq)
   cases o1:onB m.c s x
   case false=>
    have a6:=zd (show(!XQ m s x)=true by simp[XQ,o1])
    clear o1
    go_wp2_with fail
    go_roundw
    case rel=>exact⟨i+1,by omega,by go_num,jx (ud HA) (ud HX) (ud a6),ud a5⟩
    case measure=>simp[intOf];omega
   by_cases o2:0<=x.t
   case neg=>
    have a6:=zd (show(!XQ m s x)=true by simp[XQ,o2])
    clear o1
    go_wp2_with fail
    go_roundw
    case rel=>exact⟨i+1,by omega,by go_num,jx (ud HA) (ud HX) (ud a6),ud a5⟩
    case measure=>simp[intOf];omega
   cases o3:vv x m.pub
   case true=>
    have a6:=zd (show(!XQ m s x)=true by simp[XQ,o3])
    clear o1 o3
    go_wp2_with fail
    go_roundw
    case rel=>exact⟨i+1,by omega,by go_num,jx (ud HA) (ud HX) (ud a6),ud a5⟩
    case measure=>simp[intOf];omega
   have HR:=zd (show qt m s l=false by unfold qt;rw[zdO (ud HX) (by simp[XQ,o1,o2,o3])];simp)
   clear o1 o3
   go_wp2_with fail
   go_ret
   exact⟨zy (ud HR).symm,(ud z).trans ((ud a5).mono (ud z).size)⟩
  ·have HR:=zd (show qt m s l=true by unfold qt;rw[ud aG,YC (fun j x hj hx=>ud HA j x (by omega) hx)];rfl)
   go_wp2_with fail
   go_ret
   exact⟨zy (ud HR).symm,(ud z).trans ((ud a7).mono (ud z).size)⟩
theorem zda{B B2:Nat}{w:Y}{p:Nat}{m:RM}{tv nv pv gv kv:G}(h:zQ B w p m tv nv pv gv kv)(hc:m.c.ok)(b2:m.gone.length<=1000000000000)(b9:m.pub.length<=1000000000000)(aw:0<=m.now/\m.now<=100000)(s:Sg)(hs:zjw m.c s)(l:List Sg)(v:G)(hl:l.length<=10000000000)(a9:w.ownsRow B2 287 3 v l.length (l.flatMap sgV))(aN:∀x∈l,zjw m.c x):
  Calls prog 277 #[.pointer (U ⟨p,0,O⟩),I J 2,.agg #[I J s.t,I J s.se,I J s.wn],v] w fun e w'=>e=.returned (.bool (qJ m s l))/\Z w.1.size w w':=by
 obtain⟨a2,a3,ai,aj⟩:=hs
 obtain⟨al,cl,hv⟩:=zm a9
 subst hv
 obtain⟨ag,cg,aL⟩:=zm h.grow
 subst aL
 obtain⟨ap,cp,aO⟩:=zm h.prow
 subst aO
 obtain⟨aW,aX⟩:=hc.la
 obtain⟨b7,b8⟩:=aw
 obtain⟨b5,b6⟩:=hc.keeps a2 a3
 obtain⟨b0,b1⟩:=hc.ends a2 a3 ai aj
 have y0:=zr w (.cells #[I J s.t,I J s.se,I J s.wn] 287)
 have a1:Z w.1.size w (w.alloc (.cells #[I J s.t,I J s.se,I J s.wn] 287)):=(S _ _).alloc (N _) _
 have aQ:=zG w (.cells #[I J s.t,I J s.se,I J s.wn] 287)
 have H:=zd h
 have ao:=zd a9
 clear h a9
 go_enter func277,ntmps277
 go_wp2_with fail
 generalize(w.alloc (.cells #[I J s.t,I J s.se,I J s.wn] 287))=W at*
 have K:=zd (fun(u:Y) (C:Z W.1.size W u)=>(ud H).later (a1.trans (C.mono a1.size)))
 have aH:=zd (fun(u:Y) (C:Z W.1.size W u)=>zM (ud ao) (a1.trans (C.mono a1.size)))
 have HF:Hid (∀(u:Y),Z W.1.size W u->u.cell? ⟨p,9,O⟩=U (.slice ap m.pub.length cp)/\u.cell? ⟨p,10,O⟩=U (.slice ag m.gone.length cg)/\u.cell? ⟨p,7,O⟩=U (I J m.now)/\u.cell? ⟨p,2,O⟩=U (I J m.c.la)/\u.cell? ⟨w.1.size,0,O⟩=U (I J s.t)/\u.cell? ⟨w.1.size,1,O⟩=U (I J s.se)/\u.cell? ⟨w.1.size,2,O⟩=U (I J s.wn)/\p<u.1.size/\w.1.size<u.1.size):=fun u C=>by
  have hr:=ud K u C
  obtain⟨q7,q8,q9,aT,ba,bb,bc⟩:=hr.rest
  obtain⟨c0,c1,c2,c3,c4,c5,c6⟩:=hr.conf
  have hb:=(C.block w.1.size (by omega)).trans y0
  exact⟨q9,aT,q7,c2,by rw[xd hb];rfl,by rw[xd hb];rfl,by rw[xd hb];rfl,hr.lt,zb hb⟩
 have A:=zd a1
 have aa:=zd (S W.1.size W)
 have HP:=zd (fun(u:Y) (C:Z W.1.size W u)=>xH B m.pub _ s u (by omega) (ud K u C).prow)
 have HG:=zd (fun(u:Y) (C:Z W.1.size W u)=>xH B m.gone _ s u (by omega) (ud K u C).grow)
 have HE:=zd (fun(u:Y) (C:Z W.1.size W u)=>zae (ud K u C) hc s a2 a3 ai aj)
 have HK:=zd (fun(u:Y) (C:Z W.1.size W u)=>zbv (ud K u C) hc s.t a2 a3)
 clear y0 a1 aQ
 obtain⟨Q,n,P,L,T,V,s2,f,k⟩:=ud HF W (S _ _)
 have r:Nonempty (zj W.1.size W):=zj.some _ _
 have q:=fun(u:zj W.1.size W) b o h=>u.cell b o h
 go_wp2_with fail
 refine ze W.1.size (by kernel_rfl) (by kernel_rfl) ?_
 repeat(go_big_quiet_step (first|(go_at_call 218;exact Calls.later (N _) (ud HP _ ((ud aa).trans (Below.mono (Subtype.property _) (ud aa).size))))))
 refine wpQuiet_nil ?_
 rintro⟨w1,a⟩
 dsimp only
 clear q r
 have a4:=zd ((ud aa).trans (a.mono (ud aa).size))
 clear a
 clear Q n P L T V s2 f k
 obtain⟨Q,n,P,L,T,V,s2,f,k⟩:=ud HF w1 (ud a4)
 have r:Nonempty (zj w1.1.size w1):=zj.some _ _
 have q:=fun(u:zj w1.1.size w1) b o h=>u.cell b o h
 go_wp2_with fail
 refine ze w1.1.size (by kernel_rfl) (by kernel_rfl) ?_
 repeat(go_big_quiet_step (first|(go_at_call 218;exact Calls.later (N _) (ud HG _ ((ud a4).trans (Below.mono (Subtype.property _) (ud a4).size))))))
 refine wpQuiet_nil ?_
 rintro⟨w2,a⟩
 dsimp only
 clear q r
 have ab:=zd ((ud a4).trans (a.mono (ud a4).size))
 clear a
 clear Q n P L T V s2 f k
 obtain⟨Q,n,P,L,T,V,s2,f,k⟩:=ud HF w2 (ud ab)
 go_wp2_with fail
 refine(ud HE w2 (ud ab)).mono ?_
 rintro e z ⟨rfl,a⟩
 have d:=zd ((ud ab).trans (a.mono (ud ab).size))
 clear a
 clear Q n P L T V s2 f k
 obtain⟨Q,n,P,L,T,V,s2,f,k⟩:=ud HF z (ud d)
 have aU:=zd (show True from trivial)
 generalize av:m.c.end s=en at*
 have an:=zd av
 clear av
 cases e0:vv s m.gone
 case true=>
  have HR:=zd (show qJ m s l=false by simp[qJ,qF,e0])
  try rw[e0]
  have r:Nonempty (zj z.1.size z):=zj.some _ _
  have q:=fun(u:zj z.1.size z) b o h=>u.cell b o h
  go_wp2_with fail
  refine ze z.1.size (by kernel_rfl) (by kernel_rfl) ?_
  repeat(go_big_quiet_step (first|(go_at_call 300;exact Calls.later_same (ud HK _ ((ud d).trans (Below.mono (Subtype.property _) (ud d).size))))))
  refine wpQuiet_nil ?_
  rintro⟨w4,a⟩
  dsimp only
  clear q r
  have F:=zd ((ud d).trans (a.mono (ud d).size))
  clear a
  go_wp2_with fail
  go_ret
  exact⟨zy (ud HR).symm,(ud A).trans ((ud F).mono (ud A).size)⟩
 cases e1:(decide (0<=s.t)&&!vv s m.pub)
 case true=>
  have HR:=zd (show qJ m s l=false by simp[qJ,qF,e1])
  rw[Bool.and_eq_true,decide_eq_true_eq,Bool.not_eq_true']at e1
  obtain⟨aZ,aI⟩:=e1
  try rw[e0]
  try rw[aI]
  have r:Nonempty (zj z.1.size z):=zj.some _ _
  have q:=fun(u:zj z.1.size z) b o h=>u.cell b o h
  go_wp2_with fail
  refine ze z.1.size (by kernel_rfl) (by kernel_rfl) ?_
  repeat(go_big_quiet_step (first|(go_at_call 300;exact Calls.later_same (ud HK _ ((ud d).trans (Below.mono (Subtype.property _) (ud d).size))))))
  refine wpQuiet_nil ?_
  rintro⟨w4,a⟩
  dsimp only
  clear q r
  have F:=zd ((ud d).trans (a.mono (ud d).size))
  clear a
  go_wp2_with fail
  go_ret
  exact⟨zy (ud HR).symm,(ud A).trans ((ud F).mono (ud A).size)⟩
 rw[Bool.and_eq_false_iff,decide_eq_false_iff_not,Bool.not_eq_false']at e1
 by_cases e3:m.now<en+m.c.keep s.t
 case pos=>
  have HR:=zd (show qJ m s l=false by simp[qJ,qF,ud an,e3])
  try rw[e0]
  by_cases e4:0<=s.t
  case pos=>
   rw[e1.resolve_left (fun h=>h e4)]
   have r:Nonempty (zj z.1.size z):=zj.some _ _
   have q:=fun(u:zj z.1.size z) b o h=>u.cell b o h
   go_wp2_with fail
   refine ze z.1.size (by kernel_rfl) (by kernel_rfl) ?_
   repeat(go_big_quiet_step (first|(go_at_call 300;exact Calls.later_same (ud HK _ ((ud d).trans (Below.mono (Subtype.property _) (ud d).size))))))
   refine wpQuiet_nil ?_
   rintro⟨w4,a⟩
   dsimp only
   clear q r
   have F:=zd ((ud d).trans (a.mono (ud d).size))
   clear a
   go_wp2_with fail
   go_ret
   exact⟨zy (ud HR).symm,(ud A).trans ((ud F).mono (ud A).size)⟩
  case neg=>
   have aJ:decide (0<=s.t)=false:=by simpa using e4
   have r:Nonempty (zj z.1.size z):=zj.some _ _
   have q:=fun(u:zj z.1.size z) b o h=>u.cell b o h
   go_wp2_with fail
   refine ze z.1.size (by kernel_rfl) (by kernel_rfl) ?_
   repeat(go_big_quiet_step (first|(go_at_call 300;exact Calls.later_same (ud HK _ ((ud d).trans (Below.mono (Subtype.property _) (ud d).size))))))
   refine wpQuiet_nil ?_
   rintro⟨w4,a⟩
   dsimp only
   clear q r
   have F:=zd ((ud d).trans (a.mono (ud d).size))
   clear a
   go_wp2_with fail
   go_ret
   exact⟨zy (ud HR).symm,(ud A).trans ((ud F).mono (ud A).size)⟩
 have aG:=zd (show qF m s=true by rcases e1 with e1|e1<;>simp[qF,e0,e1,ud an,e3])
 try rw[e0]
 have aY:Hid (∀(b:Bool),True):=fun _=>trivial
 by_cases e4:0<=s.t
 case' pos=>
  rw[e1.resolve_left (fun h=>h e4)]
 case' neg=>
  have aJ:decide (0<=s.t)=false:=by simpa using e4
 all_goals
  have r:Nonempty (zj z.1.size z):=zj.some _ _
  have q:=fun(u:zj z.1.size z) b o h=>u.cell b o h
  go_wp2_with fail
  refine ze z.1.size (by kernel_rfl) (by kernel_rfl) ?_
  repeat(go_big_quiet_step (first|(go_at_call 300;exact Calls.later_same (ud HK _ ((ud d).trans (Below.mono (Subtype.property _) (ud d).size))))))
  refine wpQuiet_nil ?_
  rintro⟨w4,a⟩
  dsimp only
  clear q r
  have F:=zd ((ud d).trans (a.mono (ud d).size))
  clear a
  clear Q n P L T V s2 f k
  go_wp2_with fail
  go_loopw [12,13,14,15,16,17] (fun y _ _ _ _ _ wr=>∃(i:Nat),i<=l.length/\y=I J i/\(∀j x,j<i->l[j]?=U x->(!ZY m s x)=true)/\Z W.1.size W wr) (fun y _ _ _ _ _ _=>l.length-(intOf y).toNat)
  case atStart=>exact⟨0,M _,rfl,fun j x hj=>absurd hj (Nat.not_lt_zero _),ud F⟩
  case round=>
   obtain⟨i,hi,rfl,ha,au⟩:=hrel
   have HA:=zd ha
   have a7:=zd au
   clear ha au
   obtain⟨Q,n,P,L,T,V,s2,f,k⟩:=ud HF wr (ud a7)
   by_cases aM:i<l.length
   ·obtain⟨x,hx⟩:=xz aM
    obtain⟨aA,aB,aR,aS⟩:=aN x (List.mem_of_getElem? hx)
    obtain⟨g,aV,aP,_,b3,x0,x1,x2⟩:=zaF (ud aH wr (ud a7)) hx
    injection aP with ax ay az
    subst ax
    have b4:(i:Int)<l.length:=by omega
    have HX:=zd hx
    clear hx ay az
    go_wp2_with fail
    have aK:=zG wr (.cells #[I J x.t,I J x.se,I J x.wn] 287)
    have ar:=zr wr (.cells #[I J x.t,I J x.se,I J x.wn] 287)
    have E:=zd ((ud a7).alloc (ud a7).size (.cells #[I J x.t,I J x.se,I J x.wn] 287))
    generalize(wr.alloc (.cells #[I J x.t,I J x.se,I J x.wn] 287))=X at*
    have a8:Hid (∀(u:Y),Z X.1.size X u->u.cell? ⟨wr.1.size,0,O⟩=U (I J x.t)/\u.cell? ⟨wr.1.size,1,O⟩=U (I J x.se)/\u.cell? ⟨wr.1.size,2,O⟩=U (I J x.wn)/\wr.1.size<u.1.size):=fun u C=>by
     have hb:=(C.block wr.1.size (by omega)).trans ar
     exact⟨by rw[xd hb];rfl,by rw[xd hb];rfl,by rw[xd hb];rfl,zb hb⟩
    have aF:=zd (fun(u:Y) (C:Z W.1.size W u)=>xH B m.pub _ x u (by omega) (ud K u C).prow)
    have aC:=zd (fun(u:Y) (C:Z W.1.size W u)=>xH B m.gone _ x u (by omega) (ud K u C).grow)
    have aD:=zd (fun(u:Y) (C:Z W.1.size W u)=>zbE (ud K u C) hc s x a2 a3 aA aB aR aS)
    have aE:=zd (fun(u:Y) (C:Z W.1.size W u)=>zbE (ud K u C) hc x s aA aB a2 a3 ai aj)
    have ah:=zd (S X.1.size X)
    clear aK ar x0 x1 x2
    clear Q n P L T V s2 f k
    obtain⟨Q,n,P,L,T,V,s2,f,k⟩:=ud HF X (ud E)
    obtain⟨x0,x1,x2,a0⟩:=ud a8 X (ud ah)
    have r:Nonempty (zj X.1.size X):=zj.some _ _
    have q:=fun(u:zj X.1.size X) b o h=>u.cell b o h
    go_wp2_with fail
    refine ze X.1.size (by kernel_rfl) (by kernel_rfl) ?_
    repeat(go_big_quiet_step (first|(go_at_call 218;exact Calls.later (N _) (ud aF _ ((ud E).trans (Below.mono (Subtype.property _) (ud E).size))))))
    refine wpQuiet_nil ?_
    rintro⟨w5,a⟩
    dsimp only
    clear q r
    have ac:=zd ((ud ah).trans (a.mono (ud ah).size))
    clear a
    have af:=zd ((ud E).trans ((ud ac).mono (ud E).size))
    clear x0 x1 x2 a0
    clear Q n P L T V s2 f k
    obtain⟨Q,n,P,L,T,V,s2,f,k⟩:=ud HF w5 (ud af)
    obtain⟨x0,x1,x2,a0⟩:=ud a8 w5 (ud ac)
    have r:Nonempty (zj w5.1.size w5):=zj.some _ _
    have q:=fun(u:zj w5.1.size w5) b o h=>u.cell b o h
    go_wp2_with fail
    refine ze w5.1.size (by kernel_rfl) (by kernel_rfl) ?_
    repeat(go_big_quiet_step (first|(go_at_call 218;exact Calls.later (N _) (ud aC _ ((ud af).trans (Below.mono (Subtype.property _) (ud af).size))))))
    refine wpQuiet_nil ?_
    rintro⟨w6,a⟩
    dsimp only
    clear q r
    have ad:=zd ((ud ac).trans (a.mono (ud ac).size))
    clear a
    have ak:=zd ((ud E).trans ((ud ad).mono (ud E).size))
    clear x0 x1 x2 a0
    clear Q n P L T V s2 f k
    obtain⟨Q,n,P,L,T,V,s2,f,k⟩:=ud HF w6 (ud ak)
    obtain⟨x0,x1,x2,a0⟩:=ud a8 w6 (ud ad)
    go_wp2_with fail
    refine(ud aD w6 (ud ak)).mono ?_
    rintro e w7 ⟨rfl,a⟩
    have ae:=zd ((ud ad).trans (a.mono (ud ad).size))
    have am:=zd ((ud E).trans ((ud ae).mono (ud E).size))
    clear a x0 x1 x2 a0
    clear Q n P L T V s2 f k
    obtain⟨Q,n,P,L,T,V,s2,f,k⟩:=ud HF w7 (ud am)
    obtain⟨x0,x1,x2,a0⟩:=ud a8 w7 (ud ae)
    go_wp2_with fail
    refine(ud aE w7 (ud am)).mono ?_
    rintro e w8 ⟨rfl,a⟩
    have aq:=zd ((ud ae).trans (a.mono (ud ae).size))
    have a5:=zd ((ud E).trans ((ud aq).mono (ud E).size))
    clear a x0 x1 x2 a0
    clear Q n P L T V s2 f k
    obtain⟨Q,n,P,L,T,V,s2,f,k⟩:=ud HF w8 (ud a5)
    obtain⟨x0,x1,x2,a0⟩:=ud a8 w8 (ud aq)
    cases o1:onB m.c x s
    case false=>
     have a6:=zd (show(!ZY m s x)=true by simp[ZY,o1])
     clear o1
     go_wp2_with fail
     go_roundw
     case rel=>exact⟨i+1,by omega,by go_num,jx (ud HA) (ud HX) (ud a6),ud a5⟩
     case measure=>simp[intOf];omega
    cases o2:vv x m.pub
    case true=>
     have a6:=zd (show(!ZY m s x)=true by simp[ZY,o2])
     clear o1 o2
     go_wp2_with fail
     go_roundw
     case rel=>exact⟨i+1,by omega,by go_num,jx (ud HA) (ud HX) (ud a6),ud a5⟩
     case measure=>simp[intOf];omega
    cases o3:vv x m.gone
    case true=>
     have a6:=zd (show(!ZY m s x)=true by simp[ZY,o3])
     clear o1 o2 o3
     go_wp2_with fail
     go_roundw
     case rel=>exact⟨i+1,by omega,by go_num,jx (ud HA) (ud HX) (ud a6),ud a5⟩
     case measure=>simp[intOf];omega
    have HR:=zd (show qJ m s l=false by unfold qJ;rw[zdO (ud HX) (by simp[ZY,o1,o2,o3])];simp)
    clear o1 o2 o3
    go_wp2_with fail
    go_ret
    exact⟨zy (ud HR).symm,(ud A).trans ((ud a5).mono (ud A).size)⟩
   ·have HR:=zd (show qJ m s l=true by unfold qJ;rw[ud aG,YC (fun j x hj hx=>ud HA j x (by omega) hx)];rfl)
    go_wp2_with fail
    go_ret
    exact⟨zy (ud HR).symm,(ud A).trans ((ud a7).mono (ud A).size)⟩
def zam(m:RM)(kind:Int)(s:Sg):Tk:=⟨kind,s,m.now,0,0,0,0,-1,0⟩
def xQ(kind:Int)(s:Sg)(t x:Tk):Tk:=if x.kind=kind/\x.s=s then x else t
def qv(m:RM)(kind:Int)(s:Sg):Tk:=m.tk.foldl (xQ kind s) (zam m kind s)
def yG(m:RM)(kind:Int)(s:Sg)(l:List Sg):Bool:=if kind=1 then qt m s l else qJ m s l
def yg(m:RM)(l:List Sg)(kind:Int)(out:List Tk)(s:Sg):List Tk:=if yG m kind s l then yl xW (qv m kind s) out else out
def xJ(m:RM)(l:List Sg)(i:Nat):List Tk:=(l.take i).foldl (fun out s=>yg m l 2 (yg m l 1 out s) s) []
def jM(m:RM)(l:List Sg)(A:List Tk)(s:Sg):Nat->List Tk
 |0=>A
 |q+1=>yg m l ((q:Int)+1) (jM m l A s q) s
def RM.settled(m:RM):RM:={m with tk:=xJ m (zE m.c m.nu) (zE m.c m.nu).length}
theorem Yb(m:RM)(l:List Sg)(i:Nat)(s:Sg)(h:l[i]?=U s):xJ m l (i+1)=jM m l (xJ m l i) s 2:=by
 obtain⟨a,b⟩:=List.getElem?_eq_some_iff.1 h
 unfold xJ
 rw[List.take_succ_eq_append_getElem a,b,List.foldl_append];rfl
theorem VN{α:Type}(lt:α->α->Bool)(x:α):∀l:List α,(yl lt x l).length=l.length+1
 |[]=>rfl
 |y::r=>by rw[yl];split<;>simp[VN lt x r]
theorem zft(m:RM)(l:List Sg)(kind:Int)(out:List Tk)(s:Sg):(yg m l kind out s).length<=out.length+1:=by
 unfold yg;split
 ·rw[VN];omega
 ·omega
theorem zal(m:RM)(l:List Sg)(A:List Tk)(s:Sg):∀q,(jM m l A s q).length<=A.length+q
 |0=>N _
 |q+1=>by have:=zft m l ((q:Int)+1) (jM m l A s q) s;have a:=zal m l A s q;rw[jM];omega
theorem Kn(m:RM)(l:List Sg):∀i,i<=l.length->(xJ m l i).length<=2*i
 |0,_=>by simp[xJ]
 |i+1,h=>by
  obtain⟨s,a⟩:=xz (show i<l.length by omega)
  have:=Kn m l i (by omega)
  have b:=zal m l (xJ m l i) s 2
  rw[Yb m l i s a];omega
theorem zeR(m:RM)(kind:Int)(s:Sg)(k:Nat)(x:Tk)(h:m.tk[k]?=U x):(m.tk.take (k+1)).foldl (xQ kind s) (zam m kind s)=xQ kind s ((m.tk.take k).foldl (xQ kind s) (zam m kind s)) x:=by
 rw[zfM h,List.foldl_append];rfl
theorem zgT{kind:Int}{s:Sg}{t x:Tk}(h:x.kind=kind)(a:x.s=s):xQ kind s t x=x:=by simp[xQ,h,a]
theorem zgR{kind:Int}{s:Sg}{t x:Tk}(h:¬x.kind=kind):xQ kind s t x=t:=by simp[xQ,h]
theorem zgS{kind:Int}{s:Sg}{t x:Tk}(h:¬x.s=s):xQ kind s t x=t:=by simp[xQ,h]
theorem ziV{c:Cf}{nu:List Nm}(h:c.ok)(b:∀x∈nu,x.ok):∀s∈zE c nu,zjw c s:=fun s j=>by
 obtain⟨d,f,x,k,i⟩:=yv.1 j
 obtain⟨l,m,g,n,o,p⟩:=b x k
 obtain⟨q,r⟩:=h.wh d f
 have e:s.wn=x.tm/c.wh s.t:=by rw[i];rfl
 refine⟨d,f,?_,?_⟩
 ·rw[e];exact Int.ediv_nonneg g (by omega)
 ·rw[e];have:=Int.ediv_le_self (a:=x.tm) (c.wh s.t) g;omega
theorem zx{w:Y}{p:Nat}{cs:Array G}{T e:TypeId}{d:Nat×Nat}{B size n:Nat}{v:G}{xs:List G}(h:w.1[p]?=U (.cells cs T d))(i:w.ownsRow B e size v n xs)(f:T≠e):∀k,v.ownBlock=U k->¬k=p:=fun k g b=>by
 subst b
 obtain⟨c,a⟩:=zz i g
 rw[h]at a
 injection a with a;injection a with _ a;exact f a
theorem zQ.setTasks{B:Nat}{w:Y}{p:Nat}{m:RM}{tv nv pv gv kv:G}{ts:List Tk}{z:G}(h:zQ B w p m tv nv pv gv kv)(b:w.ownsRow B 294 11 z ts.length (ts.flatMap tkV)):zQ B (w.setCell ⟨p,11,O⟩ z) p {m with tk:=ts} tv nv pv gv z:=by
 have a:zk (fun k=>k=p) w (w.setCell ⟨p,11,O⟩ z):=zq (zk.refl _ _) rfl
 exact⟨xi (i:=11) h.head z,h.base,zg h.trow a (zx h.head h.trow (by decide)),zg h.nrow a (zx h.head h.nrow (by decide)),zg h.prow a (zx h.head h.prow (by decide)),zg h.grow a (zx h.head h.grow (by decide)),zg b a (zx h.head b (by decide))⟩
theorem zkE{w:Y}{g:Nat}{a:Tk}(h:w.1[g]?=U (jF a))(x:Tk):(((((((((((w.setCell ⟨g,0,O⟩ (I J x.kind)).setCell ⟨g,1,O⟩ (I J x.s.t)).setCell ⟨g,2,O⟩ (I J x.s.se)).setCell ⟨g,3,O⟩ (I J x.s.wn)).setCell ⟨g,4,O⟩ (I J x.si)).setCell ⟨g,5,O⟩ (I J x.tc)).setCell ⟨g,6,O⟩ (I J x.rest)).setCell ⟨g,7,O⟩ (I J x.ep)).setCell ⟨g,8,O⟩ (I J x.num)).setCell ⟨g,9,O⟩ (I J x.slot)).setCell ⟨g,10,O⟩ (I J x.till)).1[g]?=U (jF x):=by
 have c:(w.setCell ⟨g,0,O⟩ (I J x.kind)).1[g]?=U (.cells #[I J x.kind,I J a.s.t,I J a.s.se,I J a.s.wn,I J a.si,I J a.tc,I J a.rest,I J a.ep,I J a.num,I J a.slot,I J a.till] 294 (0,0)):=xi (i:=0) h (I J x.kind)
 have d:((w.setCell ⟨g,0,O⟩ (I J x.kind)).setCell ⟨g,1,O⟩ (I J x.s.t)).1[g]?=U (.cells #[I J x.kind,I J x.s.t,I J a.s.se,I J a.s.wn,I J a.si,I J a.tc,I J a.rest,I J a.ep,I J a.num,I J a.slot,I J a.till] 294 (0,0)):=xi (i:=1) c (I J x.s.t)
 have e:(((w.setCell ⟨g,0,O⟩ (I J x.kind)).setCell ⟨g,1,O⟩ (I J x.s.t)).setCell ⟨g,2,O⟩ (I J x.s.se)).1[g]?=U (.cells #[I J x.kind,I J x.s.t,I J x.s.se,I J a.s.wn,I J a.si,I J a.tc,I J a.rest,I J a.ep,I J a.num,I J a.slot,I J a.till] 294 (0,0)):=xi (i:=2) d (I J x.s.se)
 have f:((((w.setCell ⟨g,0,O⟩ (I J x.kind)).setCell ⟨g,1,O⟩ (I J x.s.t)).setCell ⟨g,2,O⟩ (I J x.s.se)).setCell ⟨g,3,O⟩ (I J x.s.wn)).1[g]?=U (.cells #[I J x.kind,I J x.s.t,I J x.s.se,I J x.s.wn,I J a.si,I J a.tc,I J a.rest,I J a.ep,I J a.num,I J a.slot,I J a.till] 294 (0,0)):=xi (i:=3) e (I J x.s.wn)
 have j:(((((w.setCell ⟨g,0,O⟩ (I J x.kind)).setCell ⟨g,1,O⟩ (I J x.s.t)).setCell ⟨g,2,O⟩ (I J x.s.se)).setCell ⟨g,3,O⟩ (I J x.s.wn)).setCell ⟨g,4,O⟩ (I J x.si)).1[g]?=U (.cells #[I J x.kind,I J x.s.t,I J x.s.se,I J x.s.wn,I J x.si,I J a.tc,I J a.rest,I J a.ep,I J a.num,I J a.slot,I J a.till] 294 (0,0)):=xi (i:=4) f (I J x.si)
 have k:((((((w.setCell ⟨g,0,O⟩ (I J x.kind)).setCell ⟨g,1,O⟩ (I J x.s.t)).setCell ⟨g,2,O⟩ (I J x.s.se)).setCell ⟨g,3,O⟩ (I J x.s.wn)).setCell ⟨g,4,O⟩ (I J x.si)).setCell ⟨g,5,O⟩ (I J x.tc)).1[g]?=U (.cells #[I J x.kind,I J x.s.t,I J x.s.se,I J x.s.wn,I J x.si,I J x.tc,I J a.rest,I J a.ep,I J a.num,I J a.slot,I J a.till] 294 (0,0)):=xi (i:=5) j (I J x.tc)
 have l:(((((((w.setCell ⟨g,0,O⟩ (I J x.kind)).setCell ⟨g,1,O⟩ (I J x.s.t)).setCell ⟨g,2,O⟩ (I J x.s.se)).setCell ⟨g,3,O⟩ (I J x.s.wn)).setCell ⟨g,4,O⟩ (I J x.si)).setCell ⟨g,5,O⟩ (I J x.tc)).setCell ⟨g,6,O⟩ (I J x.rest)).1[g]?=U (.cells #[I J x.kind,I J x.s.t,I J x.s.se,I J x.s.wn,I J x.si,I J x.tc,I J x.rest,I J a.ep,I J a.num,I J a.slot,I J a.till] 294 (0,0)):=xi (i:=6) k (I J x.rest)
 have m:((((((((w.setCell ⟨g,0,O⟩ (I J x.kind)).setCell ⟨g,1,O⟩ (I J x.s.t)).setCell ⟨g,2,O⟩ (I J x.s.se)).setCell ⟨g,3,O⟩ (I J x.s.wn)).setCell ⟨g,4,O⟩ (I J x.si)).setCell ⟨g,5,O⟩ (I J x.tc)).setCell ⟨g,6,O⟩ (I J x.rest)).setCell ⟨g,7,O⟩ (I J x.ep)).1[g]?=U (.cells #[I J x.kind,I J x.s.t,I J x.s.se,I J x.s.wn,I J x.si,I J x.tc,I J x.rest,I J x.ep,I J a.num,I J a.slot,I J a.till] 294 (0,0)):=xi (i:=7) l (I J x.ep)
 have n:(((((((((w.setCell ⟨g,0,O⟩ (I J x.kind)).setCell ⟨g,1,O⟩ (I J x.s.t)).setCell ⟨g,2,O⟩ (I J x.s.se)).setCell ⟨g,3,O⟩ (I J x.s.wn)).setCell ⟨g,4,O⟩ (I J x.si)).setCell ⟨g,5,O⟩ (I J x.tc)).setCell ⟨g,6,O⟩ (I J x.rest)).setCell ⟨g,7,O⟩ (I J x.ep)).setCell ⟨g,8,O⟩ (I J x.num)).1[g]?=U (.cells #[I J x.kind,I J x.s.t,I J x.s.se,I J x.s.wn,I J x.si,I J x.tc,I J x.rest,I J x.ep,I J x.num,I J a.slot,I J a.till] 294 (0,0)):=xi (i:=8) m (I J x.num)
 have o:((((((((((w.setCell ⟨g,0,O⟩ (I J x.kind)).setCell ⟨g,1,O⟩ (I J x.s.t)).setCell ⟨g,2,O⟩ (I J x.s.se)).setCell ⟨g,3,O⟩ (I J x.s.wn)).setCell ⟨g,4,O⟩ (I J x.si)).setCell ⟨g,5,O⟩ (I J x.tc)).setCell ⟨g,6,O⟩ (I J x.rest)).setCell ⟨g,7,O⟩ (I J x.ep)).setCell ⟨g,8,O⟩ (I J x.num)).setCell ⟨g,9,O⟩ (I J x.slot)).1[g]?=U (.cells #[I J x.kind,I J x.s.t,I J x.s.se,I J x.s.wn,I J x.si,I J x.tc,I J x.rest,I J x.ep,I J x.num,I J x.slot,I J a.till] 294 (0,0)):=xi (i:=9) n (I J x.slot)
 have b:(((((((((((w.setCell ⟨g,0,O⟩ (I J x.kind)).setCell ⟨g,1,O⟩ (I J x.s.t)).setCell ⟨g,2,O⟩ (I J x.s.se)).setCell ⟨g,3,O⟩ (I J x.s.wn)).setCell ⟨g,4,O⟩ (I J x.si)).setCell ⟨g,5,O⟩ (I J x.tc)).setCell ⟨g,6,O⟩ (I J x.rest)).setCell ⟨g,7,O⟩ (I J x.ep)).setCell ⟨g,8,O⟩ (I J x.num)).setCell ⟨g,9,O⟩ (I J x.slot)).setCell ⟨g,10,O⟩ (I J x.till)).1[g]?=U (.cells #[I J x.kind,I J x.s.t,I J x.s.se,I J x.s.wn,I J x.si,I J x.tc,I J x.rest,I J x.ep,I J x.num,I J x.slot,I J x.till] 294 (0,0)):=xi (i:=10) o (I J x.till)
 exact b
theorem Km{B:Nat}{w:Y}{p:Nat}{m:RM}{tv nv pv gv kv:G}(h:zQ B w p m tv nv pv gv kv)(hB:B<=w.1.size)(hc:m.c.ok)(aD:m.nu.length<=1000000000)(aB:m.gone.length<=1000000000000)(aF:m.pub.length<=1000000000000)(bh:m.tk.length<=1000000000000)(aE:∀x∈m.nu,x.ok)(ab:0<=m.now/\m.now<=100000):
  Calls prog 248 #[.pointer (U ⟨p,0,O⟩)] w fun e w'=>e=.returned (.tuple #[])/\∃aK,zQ B w' p m.settled tv nv pv gv aK/\zk (fun k=>k=p) w w'/\∀k,aK.ownBlock=U k->w.1.size<=k:=by
 have H:=zd h
 have HS:=zd (kQ h hc aD aE)
 have bo:=vm (nu:=m.nu) hc.n4 aD
 have HM:=zd (ziV hc aE)
 obtain⟨ak,ck,aX⟩:=zm h.krow
 subst aX
 have hp:=h.lt
 have aw:Hid (m.settled={m with tk:=xJ m (zE m.c m.nu) (zE m.c m.nu).length}):=rfl
 clear h
 generalize hL:zE m.c m.nu=L at*
 clear hL
 go_enter func248,ntmps248
 go_wp2_with fail
 refine(ud HS).mono ?_
 rintro e F ⟨v,rfl,am,af⟩
 obtain⟨al,cl,b1⟩:=zm am
 subst b1
 have aP:=zd am
 have av:=zd af
 have ao:=af.size
 clear am af
 have n:=zd (fun(u:Y) (hu:Z F.1.size F u)=>(ud H).later ((ud av).trans (hu.mono ao)))
 have a6:=zd (fun(u:Y) (hu:Z F.1.size F u)=>zM (ud aP) hu)
 go_wp2_with fail
 go_loopw [3,4,5,6,7,8] (fun z y _ _ _ _ wr=>∃(i:Nat),i<=L.length/\y=I J i/\wr.ownsRow F.1.size 294 11 z (xJ m L i).length ((xJ m L i).flatMap tkV)/\Z F.1.size F wr) (fun _ y _ _ _ _ _=>L.length-(intOf y).toNat)
 case atStart=>exact⟨0,M _,rfl,World.ownsRow_nil _ _ _ _,S _ _⟩
 case round=>
  obtain⟨i,hi,rfl,hz,X⟩:=hrel
  obtain⟨az,cz,ap⟩:=zm hz
  subst ap
  have r:=zd hz
  have f:=zd X
  have b9:=Kn m L i hi
  clear hz X
  by_cases aV:i<L.length
  ·obtain⟨s,hs⟩:=xz aV
   have aG:=ud HM s (List.mem_of_getElem? hs)
   have bg:(i:Int)<L.length:=by omega
   have aO:=zd (Yb m L i s hs)
   have ax:=zd hs
   clear hs
   generalize xJ m L i=A at*
   go_wp2_with fail
   go_loopw [3,5,6,7,8] (fun z y _ _ _ wr=>∃(q:Nat),q<=2/\y=I J ((q:Int)+1)/\wr.ownsRow F.1.size 294 11 z (jM m L A s q).length ((jM m L A s q).flatMap tkV)/\Z F.1.size F wr) (fun _ y _ _ _ _=>3-(intOf y).toNat)
   case atStart=>exact⟨0,by omega,rfl,ud r,ud f⟩
   case round=>
    clear r f
    obtain⟨q,hq,rfl,hz,X⟩:=hrel
    obtain⟨ba,bc,ap⟩:=zm hz
    subst ap
    have r:=zd hz
    have f:=zd X
    clear hz X
    have bj:=zal m L A s q
    by_cases bm:q<2
    ·have bn:(q:Int)+1<=2:=by omega
     have a5:Hid (Calls prog 277 #[.pointer (U ⟨p,0,O⟩),I J ((q:Int)+1),.agg #[I J s.t,I J s.se,I J s.wn],.slice al L.length cl] wr fun e w'=>e=.returned (.bool (yG m ((q:Int)+1) s L))/\Z wr.1.size wr w'):=by
      have h1:=zcY (ud n wr (ud f)) hc aB aF ab s aG L _ (by omega) (ud a6 wr (ud f)) (ud HM)
      have h2:=zda (ud n wr (ud f)) hc aB aF ab s aG L _ (by omega) (ud a6 wr (ud f)) (ud HM)
      rcases(show q=0\/q=1 by omega)with rfl|rfl
      ·exact h1
      ·exact h2
     obtain⟨g,b6,an,_,a8,x0,x1,x2⟩:=zaF (ud a6 wr (ud f)) (ud ax)
     injection an with a0 a1 a2
     subst a0
     clear a1 a2
     have aa:Hid (jM m L A s (q+1)=yg m L ((q:Int)+1) (jM m L A s q) s):=rfl
     generalize jM m L A s q=P at*
     cases E:yG m ((q:Int)+1) s L
     ·rw[E]at a5
      have ad:=zd (show yg m L ((q:Int)+1) P s=P by simp[yg,E])
      clear E
      go_wp2_with fail
      refine(ud a5).mono ?_
      rintro e w1 ⟨rfl,l⟩
      go_wp2_with fail
      go_roundw
      case rel=>exact⟨q+1,by omega,by go_num,by rw[ud aa,ud ad];exact zM (ud r) l,(ud f).trans (l.mono (ud f).size)⟩
      case measure=>simp[intOf];omega
     ·rw[E]at a5
      have ad:=zd (show yg m L ((q:Int)+1) P s=yl xW (qv m ((q:Int)+1) s) P by simp[yg,E])
      clear E
      go_wp2_with fail
      refine(ud a5).mono ?_
      rintro e w1 ⟨rfl,l⟩
      have a3:=zd ((ud f).trans (l.mono (ud f).size))
      have z0:=(l.cell (p:=⟨g,i*3,O⟩) a8).trans x0
      have z1:=(l.cell (p:=⟨g,i*3+1,O⟩) a8).trans x1
      have z2:=(l.cell (p:=⟨g,i*3+2,O⟩) a8).trans x2
      obtain⟨r7,r8,r9,aq,a9,ar,au⟩:=(ud n w1 (ud a3)).rest
      have bk:=(ud n w1 (ud a3)).lt
      have be:g<w1.1.size:=R a8 l.size
      have aR:=zd (zM (ud r) l)
      clear r8 r9 aq a9 ar au x0 x1 x2 l
      go_wp2_with fail
      go_region
      go_wp2_with fail
      go_loopw [8] (fun y wq=>∃(k:Nat),k<=m.tk.length/\y=I J k/\wq.1[w1.1.size]?=U (jF ((m.tk.take k).foldl (xQ ((q:Int)+1) s) (zam m ((q:Int)+1) s)))/\Z w1.1.size w1 wq) (fun y _=>m.tk.length-(intOf y).toNat)
      case atStart=>exact⟨0,M _,rfl,zr w1 _,((S _ _).alloc (N _) _).drew⟩
      case round=>
       clear z0 z1 z2 r7
       obtain⟨k,hk,rfl,hT,ag⟩:=hrel
       have ae:w1.1.size<wr.1.size:=zb hT
       have HQ:=zd ((ud a3).trans (ag.mono (ud a3).size))
       have C:=zd ag
       obtain⟨r7,r8,r9,aq,a9,ar,au⟩:=(ud n wr (ud HQ)).rest
       have aY:=(ud n wr (ud HQ)).lt
       obtain⟨g',b7,an,_,bf,x0,x1,x2⟩:=zaF (ud a6 wr (ud HQ)) (ud ax)
       injection an with a0 a1 a2
       cases a0
       clear r7 r8 r9 aq ar au ag a1 a2
       by_cases aC:k<m.tk.length
       ·obtain⟨x,hx⟩:=xz aC
        obtain⟨W,b8,b2,_,d,y0,y1,y2,y3,y4,y5,y6,y7,y8,y9,b5⟩:=zdx (ud n wr (ud HQ)).krow hx
        injection b2 with aH aI aJ
        subst aH
        have ac:=zd (zeR m ((q:Int)+1) s k x hx)
        have bi:(k:Int)<m.tk.length:=by omega
        generalize(m.tk.take k).foldl (xQ ((q:Int)+1) s) (zam m ((q:Int)+1) s)=T at*
        have HT:=zd hT
        clear hx hT aI aJ
        have ai:Nonempty (zj wr.1.size wr):=zj.some _ _
        have ah:=fun(u:zj wr.1.size wr) b o h=>u.cell b o h
        by_cases o1:x.kind=(q:Int)+1
        ·have b3:(x.kind==(q:Int)+1)=true:=by simp[o1]
         by_cases o2:x.s=s
         ·have Q:=zd (zgT (t:=T) o1 o2)
          have o3:x.s.t=s.t:=by rw[o2]
          have o4:x.s.se=s.se:=by rw[o2]
          have o5:x.s.wn=s.wn:=by rw[o2]
          have p3:(x.s.t==s.t)=true:=by simp[o3]
          have p4:(x.s.se==s.se)=true:=by simp[o4]
          have p5:(x.s.wn==s.wn)=true:=by simp[o5]
          clear o1 o2 o3 o4 o5
          go_wp2_with fail
          refine ze wr.1.size (by kernel_rfl) (by kernel_rfl) ?_
          repeat(go_big_quiet_step (fail))
          refine wpQuiet_nil ?_
          rintro⟨w2,a⟩
          dsimp only
          clear ah ai
          have bp:=(a.cell (p:=⟨p,11,O⟩) aY).trans a9
          have c0:=(a.cell (p:=⟨W,k*11,O⟩) d).trans y0
          have c1:=(a.cell (p:=⟨W,k*11+1,O⟩) d).trans y1
          have c2:=(a.cell (p:=⟨W,k*11+2,O⟩) d).trans y2
          have c3:=(a.cell (p:=⟨W,k*11+3,O⟩) d).trans y3
          have c4:=(a.cell (p:=⟨W,k*11+4,O⟩) d).trans y4
          have c5:=(a.cell (p:=⟨W,k*11+5,O⟩) d).trans y5
          have c6:=(a.cell (p:=⟨W,k*11+6,O⟩) d).trans y6
          have c7:=(a.cell (p:=⟨W,k*11+7,O⟩) d).trans y7
          have c8:=(a.cell (p:=⟨W,k*11+8,O⟩) d).trans y8
          have c9:=(a.cell (p:=⟨W,k*11+9,O⟩) d).trans y9
          have bb:=(a.cell (p:=⟨W,k*11+10,O⟩) d).trans b5
          have a7:=(a.block _ ae).trans (ud HT)
          obtain⟨t0,t1,t2,t3,t4,t5,t6,t7,t8,t9,b4⟩:=ZG a7
          have tf:∀j,w2.frozen? ⟨w1.1.size,j,O⟩=false:=fun j=>zH a7 j
          have V:=zd a7
          have K:=zd a
          clear a7 a
          go_wp2_with fail
          go_roundw
          case rel=>
           refine⟨k+1,by omega,by go_num,by rw[ud ac,ud Q];exact zkE (ud V) x,?_⟩
           repeat(refine xN ?_ (N _))
           exact(ud C).trans ((ud K).mono (ud C).size)
          case measure=>simp[intOf];omega
         ·have Q:=zd (zgS (kind:=(q:Int)+1) (t:=T) o2)
          have hd:=ziZ o2
          clear o1 o2
          rcases hd with hd|⟨aT,hd⟩|⟨aT,bd,hd⟩
          all_goals
           go_wp2_with fail
           refine ze wr.1.size (by kernel_rfl) (by kernel_rfl) ?_
           repeat(go_big_quiet_step (fail))
           refine wpQuiet_nil ?_
           rintro⟨w2,a⟩
           dsimp only
           clear ah ai
           have V:=zd ((a.block _ ae).trans (ud HT))
           have K:=zd a
           clear a
           go_wp2_with fail
           go_roundw
           case rel=>exact⟨k+1,by omega,by go_num,by rw[ud ac,ud Q];exact ud V,(ud C).trans ((ud K).mono (ud C).size)⟩
           case measure=>simp[intOf];omega
        ·have Q:=zd (zgR (s:=s) (t:=T) o1)
         have b3:(x.kind==(q:Int)+1)=false:=by simp[o1]
         clear o1
         go_wp2_with fail
         refine ze wr.1.size (by kernel_rfl) (by kernel_rfl) ?_
         repeat(go_big_quiet_step (fail))
         refine wpQuiet_nil ?_
         rintro⟨w2,a⟩
         dsimp only
         clear ah ai
         have V:=zd ((a.block _ ae).trans (ud HT))
         have K:=zd a
         clear a
         go_wp2_with fail
         go_roundw
         case rel=>exact⟨k+1,by omega,by go_num,by rw[ud ac,ud Q];exact ud V,(ud C).trans ((ud K).mono (ud C).size)⟩
         case measure=>simp[intOf];omega
       ·have aW:k=m.tk.length:=by omega
        have ay:(m.tk.take k).foldl (xQ ((q:Int)+1) s) (zam m ((q:Int)+1) s)=qv m ((q:Int)+1) s:=by rw[aW,List.take_length];rfl
        rw[ay]at hT
        generalize qv m ((q:Int)+1) s=T at*
        obtain⟨t0,t1,t2,t3,t4,t5,t6,t7,t8,t9,b4⟩:=ZG hT
        have aQ:=zd (zhC F.1.size P _ T wr (by omega) (zM (ud aR) (ud C)))
        clear hT ay
        go_wp2_with fail
        refine(ud aQ).mono ?_
        rintro e w4 ⟨v4,rfl,aj,aA⟩
        obtain⟨a4,c4,b0⟩:=zm aj
        subst b0
        have aN:=zd aj
        have aM:=zd ((ud HQ).trans (aA.mono (ud HQ).size))
        clear aj aA
        go_wp2_with fail
        go_roundw
        case rel=>exact⟨q+1,by omega,by go_num,by rw[ud aa,ud ad];exact yF (ud aN) (by have:=(ud HQ).size;omega),ud aM⟩
        case measure=>simp[intOf];omega
    ·have aZ:q=2:=by omega
     subst aZ
     go_wp2_with fail
     go_roundw
     case rel=>exact⟨i+1,by omega,by go_num,by rw[ud aO];exact ud r,ud f⟩
     case measure=>simp[intOf];omega
  ·have aU:i=L.length:=by omega
   subst aU
   have hr:=ud n wr (ud f)
   obtain⟨-,-,-,-,-,-,-,-,-,-,-,a9,-⟩:=zc hr.head
   have rf:∀j,wr.frozen? ⟨p,j,O⟩=false:=fun j=>zH hr.head j
   have aS:Z w.1.size w wr:=(ud av).trans ((ud f).mono ao)
   have bl:=hr.lt
   have aL:=zd (hr.setTasks (ts:=xJ m L L.length) (yF (ud r) (show B<=F.1.size by omega)))
   have FO:=zd (fun k hk=>((ud r).lt k hk).1)
   have FK:=zd (zq (i:=11) (v:=.slice az (xJ m L L.length).length cz) (vh (zk.refl (fun k=>k=p) w) aS) rfl)
   clear hr
   go_wp2_with fail
   go_end0
   refine⟨rfl,_,?_,ud FK,fun k hk=>Nat.le_trans ao (ud FO k hk)⟩
   rw[ud aw]
   exact ud aL
theorem zQ.setNow{B:Nat}{w:Y}{p:Nat}{m:RM}{tv nv pv gv kv:G}(h:zQ B w p m tv nv pv gv kv)(n:Int):zQ B (w.setCell ⟨p,7,O⟩ (I J n)) p {m with now:=n} tv nv pv gv kv:=by
 have a:zk (fun k=>k=p) w (w.setCell ⟨p,7,O⟩ (I J n)):=zq (zk.refl _ _) rfl
 exact⟨xi (i:=7) h.head (I J n),h.base,zg h.trow a (zx h.head h.trow (by decide)),zg h.nrow a (zx h.head h.nrow (by decide)),zg h.prow a (zx h.head h.prow (by decide)),zg h.grow a (zx h.head h.grow (by decide)),zg h.krow a (zx h.head h.krow (by decide))⟩
def RM.tick(m:RM)(n:Int):RM×Int:=if n<1\/1000<n\/100000<m.now+n then(m,5)else({m with now:=m.now+n}.settled,0)
theorem zcb{m:RM}{n:Int}(h:n<1\/1000<n\/100000<m.now+n):m.tick n=(m,5):=by simp[RM.tick,h]
theorem Tryz.infoNumber:(prog.info? 319).map (fun i=>(i.zero,i.size,i.bytes))=U (U (.agg #[I J 0,I J 0,I D 0]),3,24):=by kernel_rfl
def zan(x:Nm):Obj:=.cells #[I J x.se,I J x.tm,I D x.val] 319 (0,0)
theorem Jo{w:Y}{ops:Array Oper}{o:Oper}{a:Act}{K:Act->Y->Prop}{Q:Exit->Act->Y->Prop}{E:Prop}(m:o.guard=O)(s x:Operand)
  (u:o.op=.call {callee:=.builtin .append,args:=#[s,x],argTypes:=#[224,224]}) (base:Nat) (v:G) (l:List Nm) (f:Nm) (z:a.eval s=v) (d:w.ownsRow base 319 3 v l.length (l.flatMap nmV))
  (e:Nat) (B:a.eval x=.slice (U ⟨e,0,O⟩) 1 1) (j:w.1[e]?=U (zan f)) (F:l.length<=1099511627776) (hbase:base<=w.1.size)
  (h:∀g cap w',w'.ownsRow base 319 3 (.slice (U ⟨g,0,O⟩) (l.length+1) cap) (l++[f]).length ((l++[f]).flatMap nmV)->w.grownBy w' v.ownBlock->(v.ownBlock=U g\/g=w.1.size)->g<w'.1.size->K (a.put o.dst (.slice (U ⟨g,0,O⟩) (l.length+1) cap)) w'):
  if Region.wanted o (yielded ops a.tmps)=true then Oper.wp prog o a w K Q else E:=by
 have A:Region.wanted o (yielded ops a.tmps)=true:=by simp[Region.wanted,m]
 rw[if_pos A]
 have b:=Tryz.infoNumber
 cases n:prog.info? 319 with
 |none=>simp[n]at b
 |some i=>
  simp only[n,Option.map_some,Option.some.injEq,Prod.mk.injEq]at b
  obtain⟨C,c,k⟩:=b
  obtain⟨g,cap,w',y,p,_,q,r,t⟩:=je (P:=prog) w 224 o.type base 319 i _ 3 24 underlying224 n C c k rfl (by decide) v l.length (l.flatMap nmV) d ⟨e,0,O⟩ 1 1 (nmV f) rfl
   (World.news_of_block (cs:=(nmV f).toArray) j) (zeE f) (by decide) (by simp only[maxLen];omega) (by omega) hbase
  unfold Oper.wp
  simp[execOp,u,resolve,invoke,builtin,z,B,y,Result.andThen]
  exact h g cap w' (KG p) q r t
theorem zdl{w:Y}{base size n:Nat}{e:TypeId}{v:G}{xs:List G}(h:w.ownsRow base e size v n xs):w.drew.ownsRow base e size v n xs:=h
theorem zaA{w w':Y}{row:Option Nat}(h:w.drew.grownBy w' row):w.grownBy w' row:=⟨h.os,h.tape,h.output,h.size,h.block⟩
theorem zdh(w:Y)(o:Obj):(w.alloc o).drew.1[w.1.size]?=U o:=zr w o
theorem Kl(w:Y)(o:Obj):(w.alloc o).drew.1.size=w.1.size+1:=zG w o
theorem qV{w:Y}{h i p q n1 o:Nat}{e f:TypeId}{g v2:G}{r s:List G}(j:w.ownsRow h e p g n1 r)(l:w.ownsRow i f q v2 o s)(m:e≠f):∀k,g.ownBlock=U k->¬v2.ownBlock=U k:=fun k n d=>by
 obtain⟨t,c⟩:=zz j n
 obtain⟨u,a⟩:=zz l d
 rw[c]at a
 injection a with b;injection b with _ b;exact m b
theorem zQ.setNums{B:Nat}{w f:Y}{p:Nat}{m:RM}{tv nv pv gv kv z:G}{x:Nm}(h:zQ B w p m tv nv pv gv kv)(c:zk (fun k=>nv.ownBlock=U k) w f)(b:f.ownsRow B 319 3 z (m.nu++[x]).length ((m.nu++[x]).flatMap nmV)):zQ B (f.setCell ⟨p,8,O⟩ z) p {m with nu:=m.nu++[x]} tv z pv gv kv:=by
 have a:=c.heap h.head (fun e=>zx h.head h.nrow (by decide) p e rfl)
 have d:zk (fun k=>k=p) f (f.setCell ⟨p,8,O⟩ z):=zq (zk.refl _ _) rfl
 have g:=zg h.trow c (qV h.trow h.nrow (by decide))
 have j:=zg h.prow c (qV h.prow h.nrow (by decide))
 have a3:=zg h.grow c (qV h.grow h.nrow (by decide))
 have a4:=zg h.krow c (qV h.krow h.nrow (by decide))
 exact⟨xi (i:=8) a z,h.base,zg g d (zx a g (by decide)),zg b d (zx a b (by decide)),zg j d (zx a j (by decide)),zg a3 d (zx a a3 (by decide)),zg a4 d (zx a a4 (by decide))⟩
def qR(m:RM)(L:List Sg)(x:Nm)(k:Nat):Int:=(List.range k).foldl (fun(c:Int) (t:Nat)=>if zt m.c (t:Int) x∈L then c else c+2) (m.used+1)
theorem zaa{m:RM}{L:List Sg}{x:Nm}{k:Nat}(h:zt m.c (k:Int) x∈L):qR m L x (k+1)=qR m L x k:=by simp[qR,List.range_succ,h]
theorem KB{m:RM}{L:List Sg}{x:Nm}{k:Nat}(h:¬zt m.c (k:Int) x∈L):qR m L x (k+1)=qR m L x k+2:=by simp[qR,List.range_succ,h]
theorem Ql(m:RM)(L:List Sg)(x:Nm):∀k:Nat,m.used+1<=qR m L x k/\qR m L x k<=m.used+1+2*k
 |0=>by simp[qR]
 |k+1=>by
  have:=Ql m L x k
  by_cases h:zt m.c (k:Int) x∈L
  ·rw[zaa h];omega
  ·rw[KB h];omega
def RM.ingest(m:RM)(se tm val:Int):RM×Int:=
 if se<0\/4<=se then(m,2)
 else if tm<0\/m.now<tm then(m,5)
 else if tm<m.now-m.c.la then(m,3)
 else if m.c.qu<qR m (zE m.c m.nu) ⟨se,tm,val⟩ m.c.n then(m,4)
 else({m with nu:=m.nu++[Nm.mk se tm val]}.settled,0)
theorem Xb{m:RM}{se tm val:Int}(h:se<0\/4<=se):m.ingest se tm val=(m,2):=by simp[RM.ingest,h]
theorem Z4{m:RM}{se tm val:Int}(h:¬(se<0\/4<=se))(a:tm<0\/m.now<tm):m.ingest se tm val=(m,5):=by unfold RM.ingest;rw[if_neg h,if_pos a]
theorem Qy{m:RM}{se tm val:Int}(h:¬(se<0\/4<=se))(a:¬(tm<0\/m.now<tm))(b:tm<m.now-m.c.la):m.ingest se tm val=(m,3):=by unfold RM.ingest;rw[if_neg h,if_neg a,if_pos b]
theorem Qx{m:RM}{se tm val:Int}(h:¬(se<0\/4<=se))(a:¬(tm<0\/m.now<tm))(b:¬tm<m.now-m.c.la)(d:m.c.qu<qR m (zE m.c m.nu) ⟨se,tm,val⟩ m.c.n):m.ingest se tm val=(m,4):=by unfold RM.ingest;rw[if_neg h,if_neg a,if_neg b,if_pos d]
theorem VM{m:RM}{se tm val:Int}(h:¬(se<0\/4<=se))(a:¬(tm<0\/m.now<tm))(b:¬tm<m.now-m.c.la)(d:¬m.c.qu<qR m (zE m.c m.nu) ⟨se,tm,val⟩ m.c.n):m.ingest se tm val=({m with nu:=m.nu++[Nm.mk se tm val]}.settled,0):=by unfold RM.ingest;rw[if_neg h,if_neg a,if_neg b,if_neg d]
def zeg(B:Nat)(w:Y)(p:Nat)(m:RM)(tv nv pv gv kv:G)(w':Y):Prop:=
 ∃b a,zQ B w' p m tv b pv gv a/\zk (fun k=>k=p\/nv.ownBlock=U k) w w'/\(∀k,b.ownBlock=U k->nv.ownBlock=U k\/w.1.size<=k)/\∀k,a.ownBlock=U k->kv.ownBlock=U k\/w.1.size<=k
theorem qS{B:Nat}{w w':Y}{p:Nat}{m:RM}{tv nv pv gv kv:G}(h:zQ B w p m tv nv pv gv kv)(a:Z w.1.size w w'):zeg B w p m tv nv pv gv kv w':=
 ⟨nv,kv,h.later a,zk.of_below a,fun _ h=> .inl h,fun _ h=> .inl h⟩
theorem zaB{B:Nat}{w:Y}{p:Nat}{m:RM}{tv nv pv gv kv:G}(h:zQ B w p m tv nv pv gv kv)(hB:B<=w.1.size)(hc:m.c.ok)(bj:m.nu.length<=100000000)(ap:m.gone.length<=1000000000000)(aS:m.pub.length<=1000000000000)(aP:m.tk.length<=1000000000000)(a1:∀x∈m.nu,x.ok)(au:0<=m.now/\m.now<=100000)(hu:m.used<=1000000000000000000)(se tm val:Int)(a6: -2147483648<=val/\val<=2147483647):
  Calls prog 211 #[.pointer (U ⟨p,0,O⟩),I J se,I J tm,I D val] w fun e w'=>e=.returned (I J (m.ingest se tm val).2)/\zeg B w p (m.ingest se tm val).1 tv nv pv gv kv w':=by
 obtain⟨aW,aX⟩:=au
 obtain⟨r7,r8,r9,aZ,b0,b1,b2⟩:=h.rest
 have hp:=h.lt
 obtain⟨c0,c1,c2,c3,c4,c5,c6⟩:=h.conf
 obtain⟨bg,bh⟩:=hc.la
 have H:=zd h
 obtain⟨an,cn,aR⟩:=zm h.nrow
 subst aR
 obtain⟨at_,ct,aU⟩:=zm h.trow
 subst aU
 clear r8 r9 aZ b0 b1 b2 h c0 c1 c3 c4 c5 c6
 by_cases e1:se<0
 ·rw[Xb (.inl e1)]
  go_enter func211,ntmps211
  go_wp2_with fail
  go_ret
  exact⟨rfl,qS (ud H) (S _ _)⟩
 by_cases e2:4<=se
 ·rw[Xb (.inr e2)]
  go_enter func211,ntmps211
  go_wp2_with fail
  go_ret
  exact⟨rfl,qS (ud H) (S _ _)⟩
 by_cases e3:tm<0
 ·rw[Z4 (by omega) (.inl e3)]
  go_enter func211,ntmps211
  go_wp2_with fail
  go_ret
  exact⟨rfl,qS (ud H) (S _ _)⟩
 by_cases e4:m.now<tm
 ·rw[Z4 (by omega) (.inr e4)]
  go_enter func211,ntmps211
  go_wp2_with fail
  go_ret
  exact⟨rfl,qS (ud H) (S _ _)⟩
 have ar:Nonempty (zj w.1.size w):=zj.some _ _
 have aq:=fun(u:zj w.1.size w) b o h=>u.cell b o h
 by_cases e5:tm<m.now-m.c.la
 ·rw[Qy (by omega) (by omega) e5]
  go_enter func211,ntmps211
  go_wp2_with fail
  refine ze w.1.size (by kernel_rfl) (by kernel_rfl) ?_
  repeat(go_big_quiet_step (fail))
  refine wpQuiet_nil ?_
  rintro⟨w1,q⟩
  dsimp only
  clear aq ar
  go_wp2_with fail
  go_ret
  exact⟨rfl,qS (ud H) q⟩
 have az:(Nm.mk se tm val).ok:=⟨a6.1,a6.2,by show 0<=tm;omega,by show tm<=100000;omega,by show 0<=se;omega,by show se<4;omega⟩
 have aT:=vm (nu:=m.nu) hc.n4 (by omega)
 have ay:=Xo (c:=m.c) (rc:=m.gone) (l:=zE m.c m.nu) aT (by omega) a1
 have bm:0<=m.used:=ay.1
 have a8:=zd (Qx (m:=m) (se:=se) (tm:=tm) (val:=val) (by omega) (by omega) (by omega))
 have aG:=zd (VM (m:=m) (se:=se) (tm:=tm) (val:=val) (by omega) (by omega) (by omega))
 have bi:=hc.n4
 obtain⟨bk,bl⟩:=hc.qu
 clear ay
 go_enter func211,ntmps211
 go_wp2_with fail
 refine ze w.1.size (by kernel_rfl) (by kernel_rfl) ?_
 repeat(go_big_quiet_step (fail))
 refine wpQuiet_nil ?_
 rintro⟨w1,q⟩
 dsimp only
 clear aq ar
 have r:Z w.1.size w (w1.alloc (zan ⟨se,tm,val⟩)):=q.alloc q.size _
 have ak:=zr w1 (zan ⟨se,tm,val⟩)
 have am:=zG w1 (zan ⟨se,tm,val⟩)
 have ah:=zd (kQ ((ud H).later r) hc (by omega) a1)
 have b8:=q.size
 clear q r7 c2
 go_wp2_with fail
 change Calls prog _ _ (w1.alloc (zan ⟨se,tm,val⟩)) _
 generalize(w1.alloc (zan ⟨se,tm,val⟩))=X at*
 refine(ud ah).mono ?_
 rintro e w2 ⟨v,rfl,af,F⟩
 obtain⟨al,cl,aV⟩:=zm af
 subst aV
 have aI:=zd af
 have b9:=zd F
 have a4:Z w.1.size w w2:=r.trans (F.mono r.size)
 have ai:=zd (Vm ((ud H).later a4) hc (by omega) ap a1)
 clear af ah
 go_wp2_with fail
 refine(ud ai).mono ?_
 rintro e w3 ⟨rfl,aa⟩
 have f:Z X.1.size X w3:=F.trans (aa.mono F.size)
 have b3:=zd f
 have A:Z w.1.size w w3:=r.trans (f.mono r.size)
 have ag:=zd A
 have aJ:=zd (zM (ud aI) aa)
 have aj:=zd ((f.block w1.1.size (by omega)).trans ak)
 have aA:=A.size
 have bb:=zd am
 clear F aa f A ak am a4 ai r
 generalize hL:zE m.c m.nu=L at*
 have aC:=zd (Ql m L ⟨se,tm,val⟩)
 go_wp2_with fail
 go_loopw [11,12,13,14] (fun z y _ _ wr=>∃(k:Nat),k<=m.c.n/\y=I J k/\z=I J (qR m L ⟨se,tm,val⟩ k)/\Z w3.1.size w3 wr) (fun _ y _ _ _=>m.c.n-(intOf y).toNat)
 case atStart=>exact⟨0,M _,rfl,by simp[qR],S _ _⟩
 case round=>
  obtain⟨k,hk,rfl,rfl,K⟩:=hrel
  have a0:=zd K
  have E:Z w.1.size w wr:=(ud ag).trans (K.mono aA)
  have HR:=zd ((ud H).later E)
  have d:=zd E
  obtain⟨c0,c1,c2,c3,c4,c5,c6⟩:=(ud HR).conf
  have aw:=(ud HR).lt
  have s:=(K.block w1.1.size (zb (ud aj))).trans (ud aj)
  have ba:=zd s
  have aL:=ud aC k
  obtain⟨b4,b5⟩:=aL
  have bn:=zb s
  have aK:=zd (zM (ud aJ) K)
  clear c0 c1 c2 c3 c4 K E
  by_cases bf:k<m.c.n
  ·obtain⟨n0,n1,n2,-⟩:=zc s
   have aQ:(k:Int)<m.c.n:=by omega
   have a9:=zd (Za (ud HR) hc (k:Int) (by omega) aQ ⟨se,tm,val⟩ az)
   clear s c5
   go_wp2_with fail
   refine(ud a9).mono ?_
   rintro e w4 ⟨rfl,ab⟩
   have aD:=zd (zaa (m:=m) (L:=L) (x:=⟨se,tm,val⟩) (k:=k))
   have aE:=zd (KB (m:=m) (L:=L) (x:=⟨se,tm,val⟩) (k:=k))
   generalize qR m L ⟨se,tm,val⟩ k=C at*
   generalize zt m.c (k:Int) ⟨se,tm,val⟩=sg at*
   have ad:∀o,Z wr.1.size wr (w4.alloc o):=fun o=>ab.alloc ab.size _
   have V:=zd (xH X.1.size L _ sg _ (by omega) (zM (ud aK) (ad (.cells #[I J sg.t,I J sg.se,I J sg.wn] 287))))
   have W:=zd (ad (.cells #[I J sg.t,I J sg.se,I J sg.wn] 287))
   clear ad ab
   rcases kb sg L with⟨hm,T⟩|⟨hm,T⟩
   ·rw[hm]at V
    have a7:=zd (ud aD T)
    clear hm T
    go_wp2_with fail
    refine(ud V).mono ?_
    rintro e w5 ⟨rfl,ac⟩
    have FB:=zd ((ud a0).trans (((ud W).trans (ac.mono (ud W).size)).mono (ud a0).size))
    go_wp2_with fail
    go_roundw
    case rel=>exact⟨k+1,by omega,by go_num,by rw[ud a7],ud FB⟩
    case measure=>simp[intOf];omega
   ·rw[hm]at V
    have a7:=zd (ud aE T)
    clear hm T
    go_wp2_with fail
    refine(ud V).mono ?_
    rintro e w5 ⟨rfl,ac⟩
    have FB:=zd ((ud a0).trans (((ud W).trans (ac.mono (ud W).size)).mono (ud a0).size))
    go_wp2_with fail
    go_roundw
    case rel=>exact⟨k+1,by omega,by go_num,by rw[ud a7],ud FB⟩
    case measure=>simp[intOf];omega
  ·have aO:k=m.c.n:=by omega
   subst aO
   by_cases ae:m.c.qu<qR m L ⟨se,tm,val⟩ m.c.n
   ·have HF:=zd (ud a8 ae)
    generalize qR m L ⟨se,tm,val⟩ m.c.n=C at*
    go_wp2_with fail
    go_ret
    rw[ud HF]
    exact⟨rfl,qS (ud H) (ud d)⟩
   ·have HF:=zd (ud aG (by omega))
    generalize qR m L ⟨se,tm,val⟩ m.c.n=C at*
    go_wp2_with fail
    obtain⟨n0,n1,n2,-⟩:=zc s
    obtain⟨-,-,-,-,-,-,-,-,r8,-⟩:=zc ((ud HR).head)
    have rf:wr.frozen? ⟨p,8,O⟩=false:=zH (ud HR).head 8
    have a2:=zd (ud HR).nrow
    have be:B<=wr.1.size:=Nat.le_trans hB (ud d).size
    have za:∀o:Obj,(wr.alloc o).cell? ⟨p,8,O⟩=U (.slice an m.nu.length cn):=fun o=>(((S wr.1.size wr).alloc (N _) o).cell (p:=⟨p,8,O⟩) aw).trans r8
    clear s
    go_region_law (refine Jo rfl (.tmp 84) (.tmp 86) rfl B _ m.nu ⟨se,tm,val⟩ (by simp[Act.eval]) (zdl ((ud a2).alloc _)) wr.1.size (by simp[Act.eval]) (zdh wr (zan ⟨se,tm,val⟩)) ?hll ?hbb ?_;(case hll=>omega);(case hbb=>(rw[Kl];omega));intro g3 a3 w5 a5 j ao b6;have P:=zaA j;clear j;have Q:zk (fun k=>(Value.slice an m.nu.length cn).ownBlock=U k) wr w5:=zk.grown ((zk.refl _ _).alloc _) P (fun k hk _=>hk);have av:w5.1[p]?=wr.1[p]?:=(Q.block p aw (fun e=>zx (ud HR).head (ud a2) (by decide) p e rfl));have d0:=(World.cell?_of_block (a:=⟨p,8,O⟩) av).trans r8;have d1:=(World.frozen?_of_block (a:=⟨p,8,O⟩) av).trans rf)
    all_goals
     have H5:=zd ((ud HR).setNums Q a5)
     have bd:wr.1.size<=w5.1.size:=Q.size
     have bc:(w5.setCell ⟨p,8,O⟩ (.slice (U ⟨g3,0,O⟩) (m.nu.length+1) a3)).1.size=w5.1.size:=by simp[World.setCell]
     have b7:=(ud d).size
     have a9:=zd (Km (ud H5) (by omega) hc (by show(m.nu++[Nm.mk se tm val]).length<=1000000000;simp;omega) ap aS aP (fun x hx=>by
      rcases List.mem_append.1 hx with hx|hx
      ·exact a1 x hx
      ·rw[List.mem_singleton.1 hx];exact az) ⟨aW,aX⟩)
     have aB:=zd ao
     have aF:=zd Q
     clear ao Q a5 P
     go_wp2_with fail
     refine(ud a9).mono ?_
     rintro e w6 ⟨rfl,aY,ax,aN,aM⟩
     have aH:=zd ax
     clear ax
     go_wp2_with fail
     go_ret
     rw[ud HF]
     refine⟨rfl,_,aY,ud aH,?_,fun k hk=>?_,fun k hk=> .inr ?_⟩
     ·have k1:zk (fun k=>k=p\/(Value.slice an m.nu.length cn).ownBlock=U k) w wr:=zk.of_below (ud d)
      have k2:=k1.trans (ud aF) (fun _ _ h=> .inr h)
      have k3:=zq (i:=8) (g:=p) (v:=.slice (U ⟨g3,0,O⟩) (m.nu.length+1) a3) k2 (.inl rfl)
      exact k3.trans aN (fun _ _ h=> .inl h)
     ·simp[Value.ownBlock]at hk
      subst hk
      rcases ud aB with h|h
      ·exact .inl h
      ·right;rw[Kl]at h;omega
     ·have:=aM k hk;omega
structure SV where
 st:Int
 cl:Cl
abbrev LV:=List (Sg×SV)
def qC:Cl:=⟨0,0,0,0⟩
def zl(L:LV):List Sg:=L.map (·.1)
def ku(L:LV)(s:Sg):Option SV:=(L.find? (fun p=>decide (p.1=s))).map (·.2)
def yL(L:LV)(s:Sg)(v:SV):LV:=if s∈zl L then L.map (fun p=>if p.1=s then(s,v)else p)else L++[(s,v)]
def stL(L:LV)(s:Sg):SV:=(ku L s).getD ⟨0,qC⟩
def yj(v:SV):Int:=if v.st=1 then v.cl.cnt else 2
def xI:List Int->Int
 |[]=>0
 |a::l=>a+xI l
def zU(L:LV):Int:=xI (L.map (fun p=>yj p.2))
def Yu(k:Int)(v:SV):Int:=if v.st=k then 1 else 0
def xy(L:LV)(k:Int):Int:=xI (L.map (fun p=>Yu k p.2))
theorem Yf(a b:List Int):xI (a++b)=xI a+xI b:=by
 induction a with
 |nil=>simp[xI]
 |cons x l c=>simp only[List.cons_append,xI,c];omega
theorem Yg{a b:List Int}(h:a.Perm b):xI a=xI b:=by
 induction h with
 |nil=>rfl
 |cons x _ e=>simp only[xI,e]
 |swap x y l=>simp only[xI];omega
 |trans _ _ c d=>exact c.trans d
theorem Kr{α:Type}(f:α->Int):∀(l:List α) (u:Int),l.foldl (fun n s=>n+f s) u=u+xI (l.map f)
 |[],u=>by simp[xI]
 |a::l,u=>by rw[List.foldl_cons,Kr f l (u+f a)];simp only[List.map_cons,xI];omega
theorem ya{L:LV}{s:Sg}:ku L s=O↔s∉zl L:=by
 unfold ku zl
 rw[Option.map_eq_none_iff,List.find?_eq_none]
 simp only[decide_eq_true_eq,List.mem_map]
 constructor
 ·rintro h ⟨p,a,rfl⟩;exact h p a rfl
 ·rintro h p a e;exact h ⟨p,a,e⟩
theorem vu{L:LV}{s:Sg}{v:SV}(h:ku L s=U v):(s,v)∈L:=by
 unfold ku at h
 rw[Option.map_eq_some_iff]at h
 obtain⟨p,b,rfl⟩:=h
 have a:=List.find?_some b
 have c:=List.mem_of_find?_eq_some b
 simp at a;subst a;exact c
theorem KH{L:LV}{s:Sg}(h:s∈zl L):∃v,ku L s=U v/\(s,v)∈L:=by
 cases e:ku L s with
 |none=>exact absurd h (ya.1 e)
 |some v=>exact⟨v,rfl,vu e⟩
theorem xw{L:LV}{s:Sg}{v:SV}{k:Sg}:k∈zl (yL L s v)↔k∈zl L\/k=s:=by
 unfold yL
 by_cases h:s∈zl L
 ·rw[if_pos h]
  have:zl (L.map (fun p=>if p.1=s then(s,v)else p))=zl L:=by
   unfold zl
   rw[List.map_map]
   apply List.map_congr_left
   intro p _
   simp only[Function.comp]
   split<;>simp_all
  rw[this]
  constructor
  ·exact .inl
  ·rintro(a|rfl)<;>assumption
 ·rw[if_neg h];simp[zl]
theorem kc{L:LV}{s:Sg}{v:SV}(h:(zl L).Nodup):(zl (yL L s v)).Nodup:=by
 unfold yL
 by_cases c:s∈zl L
 ·rw[if_pos c]
  have:zl (L.map (fun p=>if p.1=s then(s,v)else p))=zl L:=by
   unfold zl
   rw[List.map_map]
   apply List.map_congr_left
   intro p _
   simp only[Function.comp]
   split<;>simp_all
  rw[this];exact h
 ·rw[if_neg c]
  unfold zl at*
  rw[List.map_append,List.nodup_append]
  refine⟨h,by simp,fun a f b d=>?_⟩
  simp at d;subst d;intro e;subst e;exact c f
theorem xS{L:LV}{s:Sg}{v:SV}{p:Sg×SV}(h:p∈yL L s v):p=(s,v)\/(p∈L/\p.1≠s):=by
 unfold yL at h
 by_cases a:s∈zl L
 ·rw[if_pos a,List.mem_map]at h
  obtain⟨q,b,rfl⟩:=h
  by_cases e:q.1=s
  ·left;simp[e]
  ·right;simp[e,b]
 ·rw[if_neg a,List.mem_append]at h
  rcases h with h|h
  ·right;exact⟨h,fun e=>a (by unfold zl;exact List.mem_map.2 ⟨p,h,e⟩)⟩
  ·left;simpa using h
theorem Zd{L:LV}{s:Sg}{v:SV}(f:SV->Int)(h:s∉zl L):xI ((yL L s v).map (fun p=>f p.2))=xI (L.map (fun p=>f p.2))+f v:=by
 unfold yL;rw[if_neg h,List.map_append,Yf];simp[xI]
theorem zcB{L:LV}{s:Sg}{v:SV}(f:SV->Int):s∉zl L->(L.map (fun p=>if p.1=s then(s,v)else p)).map (fun p=>f p.2)=L.map (fun p=>f p.2):=by
 intro h
 rw[List.map_map]
 apply List.map_congr_left
 intro p a
 have:¬p.1=s:=fun e=>h (by unfold zl;exact List.mem_map.2 ⟨p,a,e⟩)
 simp[this]
theorem Yh{s:Sg}{u v:SV}(f:SV->Int):∀{L:LV},(zl L).Nodup->(s,u)∈L->xI ((L.map (fun p=>if p.1=s then(s,v)else p)).map (fun p=>f p.2))=xI (L.map (fun p=>f p.2))-f u+f v
 |[],_,h=>by simp at h
 |q::L,hn,h=>by
  unfold zl at hn
  rw[List.map_cons,List.nodup_cons]at hn
  rw[List.mem_cons]at h
  rcases h with rfl|h
  ·have a:=zcB (L:=L) (s:=s) (v:=v) f hn.1
   rw[List.map_cons,List.map_cons,List.map_cons,a]
   simp only[xI,if_true];omega
  ·have b:¬q.1=s:=fun e=>hn.1 (by rw[e];exact List.mem_map.2 ⟨_,h,rfl⟩)
   have:=Yh f (L:=L) (s:=s) (u:=u) (v:=v) hn.2 h
   rw[List.map_cons,List.map_cons,List.map_cons]
   simp only[b,if_false,xI]
   rw[this];omega
def ziv(c:Cf)(nu:List Nm)(s:Sg):SV:=if s.t= -1 then⟨1,xe c s nu⟩else⟨2,qC⟩
section
variable {c:Cf} {nu:List Nm} {L:LV}
end
theorem Vw{c:Cf}{s:Sg}:∀(nu:List Nm) (a:Cl),(∀x∈nu,¬zt c s.t x=s)->nu.foldl (qm c s) a=a
 |[],a,_=>rfl
 |x::r,a,h=>by
  rw[List.foldl_cons,qm,if_neg (h x (by simp))]
  exact Vw r a (fun y b=>h y (by simp[b]))
theorem Vv{c:Cf}{s:Sg}:∀(nu:List Nm) (a:Cl),a.cnt<=(nu.foldl (qm c s) a).cnt
 |[],a=>Int.le_refl _
 |x::r,a=>by
  rw[List.foldl_cons]
  have:=Vv (c:=c) (s:=s) r (qm c s a x)
  have b:a.cnt<=(qm c s a x).cnt:=by
   unfold qm;split
   ·simp only[vQ];omega
   ·omega
  omega
theorem zbc{c:Cf}{s:Sg}:∀(nu:List Nm) (a:Cl),0<=a.cnt->(∃x∈nu,zt c s.t x=s)->1<=(nu.foldl (qm c s) a).cnt
 |[],a,_,h=>by obtain⟨x,b,_⟩:=h;simp at b
 |x::r,a,g,h=>by
  rw[List.foldl_cons]
  by_cases b:zt c s.t x=s
  ·have:=Vv (c:=c) (s:=s) r (qm c s a x)
   have f:(qm c s a x).cnt=a.cnt+1:=by simp[qm,b,vQ]
   omega
  ·have f:qm c s a x=a:=by simp[qm,b]
   rw[f]
   obtain⟨y,d,e⟩:=h
   rw[List.mem_cons]at d
   rcases d with rfl|d
   ·exact absurd e b
   ·exact zbc r a g ⟨y,d,e⟩
theorem Vy{c:Cf}{nu:List Nm}{s:Sg}(b: -1<=s.t)(d:s.t<c.n):(xe c s nu).cnt=0↔s∉zE c nu:=by
 constructor
 ·intro h f
  obtain⟨_,_,x,a,e⟩:=yv.1 f
  have:=zbc (c:=c) (s:=s) nu ⟨0,0,0,0⟩ (by simp) ⟨x,a,e.symm⟩
  unfold xe at h;omega
 ·intro h
  have:xe c s nu=⟨0,0,0,0⟩:=Vw nu _ (fun x a e=>h (yv.2 ⟨b,d,x,a,e.symm⟩))
  rw[this]
def qs(v:Int):Option Cl->Cl
 |none=>⟨1,v,v,v⟩
 |some o=>⟨1+o.cnt,v+o.sum,if o.mn<v then o.mn else v,if v<o.mx then o.mx else v⟩
def xc(c:Cf)(x:Nm):Sg:=zt c (-1) x
def qE(c:Cf)(L:LV)(x:Nm):LV:=yL L (xc c x) ⟨1,qs x.val ((ku L (xc c x)).map (·.cl))⟩
def xF(c:Cf)(x:Nm)(k:Nat)(L:LV):LV:=if zt c (k:Int) x∈zl L then L else yL L (zt c (k:Int) x) ⟨2,qC⟩
def yI(c:Cf)(x:Nm):Nat->LV->LV
 |0,L=>L
 |k+1,L=>xF c x k (yI c x k L)
def yH(c:Cf)(L:LV)(x:Nm):LV:=yI c x c.n (qE c L x)
def qK(c:Cf)(L:LV)(x:Nm):Nat->Int
 |0=>0
 |k+1=>qK c L x k+(if zt c (k:Int) x∈zl L then 0 else 1)
theorem kN(c:Cf)(L:LV)(x:Nm):∀k:Nat,0<=qK c L x k/\qK c L x k<=k
 |0=>by simp[qK]
 |k+1=>by have:=kN c L x k;simp only[qK];split<;>omega
section
variable {c:Cf} {nu:List Nm} {L:LV}
theorem zfm{x:Nm}{i j:Int}(h:i≠j):zt c i x≠zt c j x:=fun e=>h (by injection e)
structure Mid(c:Cf)(nu:List Nm)(x:Nm)(k:Nat)(L:LV):Prop where
 nodup:(zl L).Nodup
 keys:∀s,s∈zl L↔s∈zE c nu\/s=xc c x\/∃j:Nat,j<k/\s=zt c (j:Int) x
 vals:∀p∈L,p.2=ziv c (nu++[x]) p.1
theorem Mid.step{x:Nm}{k:Nat}(h:Mid c nu x k L):Mid c nu x (k+1) (xF c x k L):=by
 unfold xF
 by_cases d:zt c (k:Int) x∈zl L
 ·rw[if_pos d]
  refine⟨h.nodup,fun s=>?_,h.vals⟩
  rw[h.keys]
  constructor
  ·rintro(a|a|⟨j,b,a⟩)
   ·exact .inl a
   ·exact .inr (.inl a)
   ·exact .inr (.inr ⟨j,by omega,a⟩)
  ·rintro(a|a|⟨j,b,a⟩)
   ·exact .inl a
   ·exact .inr (.inl a)
   ·by_cases e:j=k
    ·subst e;subst a;exact(h.keys _).1 d
    ·exact .inr (.inr ⟨j,by omega,a⟩)
 ·rw[if_neg d]
  refine⟨kc h.nodup,fun s=>?_,fun p f=>?_⟩
  ·rw[xw,h.keys]
   constructor
   ·rintro((a|a|⟨j,b,a⟩)|a)
    ·exact .inl a
    ·exact .inr (.inl a)
    ·exact .inr (.inr ⟨j,by omega,a⟩)
    ·exact .inr (.inr ⟨k,by omega,a⟩)
   ·rintro(a|a|⟨j,b,a⟩)
    ·exact .inl (.inl a)
    ·exact .inl (.inr (.inl a))
    ·by_cases e:j=k
     ·subst e;exact .inr a
     ·exact .inl (.inr (.inr ⟨j,by omega,a⟩))
  ·rcases xS f with rfl|⟨f,_⟩
   ·show(⟨2,qC⟩:SV)=ziv c (nu++[x]) (zt c (k:Int) x)
    unfold ziv
    rw[if_neg (show¬(zt c (k:Int) x).t= -1 by simp only[zt];omega)]
   ·exact h.vals p f
theorem Mid.to{x:Nm}(h:Mid c nu x 0 L):∀k,Mid c nu x k (yI c x k L)
 |0=>h
 |k+1=>(Mid.to h k).step
theorem KM(x:Nm)(j:Nat)(k:Nat):zt c (j:Int) x∈zl (yI c x k (qE c L x))↔zt c (j:Int) x∈zl L\/j<k:=by
 induction k with
 |zero=>
  show _∈zl (yL _ _ _)↔_
  rw[xw]
  constructor
  ·rintro(h|h)
   ·exact .inl h
   ·exact absurd h (zfm (by omega))
  ·rintro(h|h)
   ·exact .inl h
   ·omega
 |succ k b=>
  show _∈zl (xF c x k _)↔_
  unfold xF
  by_cases a:zt c (k:Int) x∈zl (yI c x k (qE c L x))
  ·rw[if_pos a,b]
   constructor
   ·rintro(h|h)
    ·exact .inl h
    ·exact .inr (by omega)
   ·rintro(h|h)
    ·exact .inl h
    ·by_cases e:j=k
     ·subst e;exact b.1 a
     ·exact .inr (by omega)
  ·rw[if_neg a,xw,b]
   constructor
   ·rintro((h|h)|h)
    ·exact .inl h
    ·exact .inr (by omega)
    ·right
     have:(j:Int)=(k:Int):=by injection h
     omega
   ·rintro(h|h)
    ·exact .inl (.inl h)
    ·by_cases e:j=k
     ·subst e;exact .inr rfl
     ·exact .inl (.inr (by omega))
theorem zjp(x:Nm)(k:Nat):zU (yI c x k (qE c L x))=zU (qE c L x)+2*qK c L x k:=by
 induction k with
 |zero=>simp[yI,qK]
 |succ k d=>
  show zU (xF c x k _)=_
  unfold xF
  have b:=KM (c:=c) (L:=L) x k k
  simp only[Nat.lt_irrefl,or_false]at b
  by_cases h:zt c (k:Int) x∈zl L
  ·rw[if_pos (b.2 h),d];simp[qK,h]
  ·rw[if_neg (fun a=>h (b.1 a))]
   unfold zU at d ⊢
   rw[Zd yj (fun a=>h (b.1 a)),d];simp[qK,h,yj];omega
end
theorem Tryz.infoTierR:(prog.info? 80).map (fun i=>(i.zero,i.size,i.bytes))=U (U (.agg #[I J 0,I J 0,I J 0]),3,24):=by kernel_rfl
def ky(n:Nat):Array G:=madeCells #[I J 0,I J 0,I J 0] (n*3)
theorem jU(n:Nat):(ky n).size=n*3:=size_madeCells _ _
theorem VV(n:Nat)(h:n<=4)(a:Y):
  (Instr.makeSlice 25 (I J (n:Int)) (I J (n:Int))).run prog a=.ok (.slice (U ⟨a.1.size,0,O⟩) n n) (a.alloc (.cells (ky n) 80)):=by
 have c:=Tryz.infoTierR
 cases d:prog.info? 80 with
 |none=>simp[d]at c
 |some i=>
  simp only[d,Option.map_some,Option.some.injEq,Prod.mk.injEq]at c
  obtain⟨g,f,b⟩:=c
  have e:=run_make (P:=prog) a 25 80 i _ underlying25 d g .i64 .i64 (n:Int) (n:Int) (by omega) (by omega) (by rw[b];omega) (by omega)
  rw[e,f]
  rfl
theorem zfO{w:Y}{a:Option Addr}{n:Nat}{F W K:Nat->Int}(h:TS w a n F W K):0<(ZM n F W K).length->∃ad,a=U ad/\∀j v,(ZM n F W K)[j]?=U v->w.cell? (ad.add j)=U v:=by
 intro l
 rw[zW]at l
 obtain⟨b,f,rfl,_,m⟩:=h (by omega)
 refine⟨_,rfl,fun j v hv=>?_⟩
 have o:j<n*3:=by
  have:=(List.getElem?_eq_some_iff.1 hv).1;rwa[zW]at this
 rw[Q8 n F W K j o]at hv
 cases hv
 have d:(⟨b,f,O⟩:Addr).add j=⟨b,f+j,O⟩:=by unfold Addr.add;split<;>simp_all
 rw[d]
 obtain⟨g,i,k⟩:=m (j/3) (by omega)
 rcases(show j%3=0\/j%3=1\/j%3=2 by omega)with e|e|e
 ·have c:j=j/3*3:=by omega
  rw[c,JV];exact g
 ·have c:j=j/3*3+1:=by omega
  rw[c,JW];exact i
 ·have c:j=j/3*3+2:=by omega
  rw[c,JX];exact k
theorem Va(c:Cf)(m:c.ok)(a:Option Addr)(cap:Nat)(ep:Int)(w:Y)(h:TS w a c.n c.F c.W c.K):
  Calls prog 77 #[.agg #[I J c.s,I J c.le,I J c.la,I J c.wi,I J c.ke,I J c.qu,.slice a c.n cap],I J ep] w fun e w'=>∃p tv,e=.returned (.pointer (U ⟨p,0,O⟩))/\zQ w.1.size w' p ⟨c,0,[],[],[],[],ep,0⟩ tv (.slice O 0 0) (.slice O 0 0) (.slice O 0 0) (.slice O 0 0)/\Z w.1.size w w':=by
 have k:=VV c.n m.n4
 go_enter func77,ntmps77
 go_wp2_with fail
 obtain⟨r,l,t,b,u⟩:=box3 w (.cells #[I J c.s,I J c.le,I J c.la,I J c.wi,I J c.ke,I J c.qu,.slice a c.n cap] 27) (.cells #[I J c.s,I J c.le,I J c.la,I J c.wi,I J c.ke,I J c.qu,.slice (U ⟨w.1.size+1+1,0,O⟩) c.n c.n,I J 0,.slice O 0 0,.slice O 0 0,.slice O 0 0,.slice O 0 0,I J ep,I J 0] 228) (.cells (ky c.n) 80)
 generalize(((w.alloc (.cells #[I J c.s,I J c.le,I J c.la,I J c.wi,I J c.ke,I J c.qu,.slice a c.n cap] 27)).alloc (.cells #[I J c.s,I J c.le,I J c.la,I J c.wi,I J c.ke,I J c.qu,.slice (U ⟨w.1.size+1+1,0,O⟩) c.n c.n,I J 0,.slice O 0 0,.slice O 0 0,.slice O 0 0,.slice O 0 0,I J ep,I J 0] 228)).alloc (.cells (ky c.n) 80))=X at*
 have f:=h.below b
 obtain⟨i,x,HR,d⟩:∃i,(Builtin.copy_ #[25,25] 3 #[.slice (U ⟨w.1.size+1+1,0,O⟩) c.n c.n,.slice a c.n cap]).run prog X.drew=.ok (I J c.n) i/\
   Hid (i.1[w.1.size+1+1]?=U (.cells (ZM c.n c.F c.W c.K).toArray 80 (0,0)))/\Hid (Z (w.1.size+2) X i):=by
  have o:X.drew.1[w.1.size+1+1]?=U (.cells (ky c.n) 80 (0,0)):=t
  have g:TS X.drew a c.n c.F c.W c.K:=f
  have q:=ZN (P:=prog) X.drew 25 25 3 80 3 (w.1.size+1+1) c.n c.n a c.n cap (ky c.n) 80 (ZM c.n c.F c.W c.K) underlying25 (by kernel_rfl) o
   (by rw[zW];simp) (zfO g) (by rw[zW,jU];omega) (Vc c.n c.F c.W c.K)
  have A:Nat.min c.n c.n=c.n:=by simp
  have y:(ZM c.n c.F c.W c.K++(ky c.n).toList.drop (ZM c.n c.F c.W c.K).length).toArray=(ZM c.n c.F c.W c.K).toArray:=by
   rw[List.drop_eq_nil_of_le (by rw[zW];simp[jU]),List.append_nil]
  rw[A,y]at q
  exact⟨_,q,setRow_heap _ _ _ _ _ _ o,below_setRow ((S _ _).drew) (N _) _⟩
 obtain⟨-,-,-,-,-,-,C,-⟩:=zc l
 obtain⟨-,-,-,-,-,-,E,-⟩:=zc r
 have v:=zd l
 have B:=zd u
 have j:=zd b
 clear r l t u b f k h
 go_region
 go_wp2_with fail
 go_ret
 have z:=((ud d).block (w.1.size+1) (by omega)).trans (ud v)
 refine⟨_,_,rfl,⟨z,by omega,⟨zW _ _ _ _,.inr ⟨_,_,_,rfl,by omega,ud HR,?_⟩⟩,World.ownsRow_nil _ _ _ _,World.ownsRow_nil _ _ _ _,World.ownsRow_nil _ _ _ _,World.ownsRow_nil _ _ _ _⟩,(ud j).trans ((ud d).mono (by omega))⟩
 refine⟨N _,by have:=m.n4;simp only[maxLen];omega,by simp[zW],?_⟩
 show List.take (c.n*3) (ZM c.n c.F c.W c.K)=ZM c.n c.F c.W c.K
 exact List.take_of_length_le (by rw[zW];omega)
end Go.Proofs.YtndhpgciopcncaaGreatDoor
namespace Go.Proofs.YtndhpgciopcncaaGreatDoor
open Go.RowKit Go.Maps
open Go.ChangeMaps (setBlock modify_eq_set)
abbrev SX:=Sg×SV
def zX:SX:=(⟨0,0,0⟩,⟨0,qC⟩)
def yX(x:SX):G:=.agg #[I J x.1.t,I J x.1.se,I J x.1.wn,I J x.2.st,I J x.2.cl.cnt,I J x.2.cl.sum,I D x.2.cl.mn,I D x.2.cl.mx]
def xR(n:Int):Prop:= -9223372036854775808<=n/\n<=9223372036854775807
def Sg.wf(s:Sg):Prop:=xR s.t/\xR s.se/\xR s.wn
theorem Tryz.laidOut:laidOutB prog=true:=by kernel_rfl
theorem zjR:(146:TypeId)<prog.types.size:=of_decide_eq_true (by kernel_rfl)
theorem ZA:Keyed prog 146:=Keyed.of_law (deep_law_laid Tryz.laidOut (m:=2) (Nat.le_of_ble_eq_true rfl) zjR (by kernel_rfl) (by kernel_rfl))
theorem zgy:∃m,prog.types.size=m+1:=by
 have h:0<prog.types.size:=of_decide_eq_true (by kernel_rfl)
 exact⟨prog.types.size-1,by omega⟩
theorem QD:prog.cellsOf 146=3:=by kernel_rfl
theorem Qz:prog.cellsOf 3=1:=by kernel_rfl
theorem zgz:prog.keyType 146=true:=by kernel_rfl
theorem zbT{s k:Sg}(h:yO s=yO k):s=k:=by
 unfold yO at h
 injection h with h
 injection h with h
 injection h with a h
 injection h with b h
 injection h with c h
 injection a with _ a
 injection b with _ b
 injection c with _ c
 cases s;cases k;simp at*;exact⟨a,b,c⟩
theorem zhB{n:Int}(h:xR n):(Lit.int .i64 n).wf=true:=WalkArith.wf_i64 (by unfold xR at h;omega)
theorem Jm{s:Sg}(h:s.wf):∃i,keyOf prog 146 (yO s)=U i:=by
 obtain⟨m,g⟩:=zgy
 obtain⟨c,d,e⟩:=h
 have f:(yO s).formed prog 146=true:=by
  simp[Value.formed,yO,underlying146,QD]
 unfold keyOf
 simp only[underlying146,zgz,f,Bool.and_self,if_true]
 have:∃b,prog.keyLits (prog.types.size+1) 146 (yO s).cells.toList=U b:=by
  rw[g]
  simp[Program.keyLits,underlying146,underlying3,yO,Value.cells,QD,Qz,zhB c,zhB d,zhB e]
 obtain⟨b,a⟩:=this
 exact⟨_,by rw[a];rfl⟩
structure zjv(es:Array MapEntry)(clock:Nat)(L:LV):Prop where
 kv:es.toList.map (fun e=>(e.key,e.val))=L.map (fun p=>(yO p.1,yX p))
 born:∀e∈es.toList,e.born<clock
 once:(es.toList.map (·.born)).Nodup
 wf:∀p∈L,p.1.wf
 nodup:(zl L).Nodup
 size:es.size<=maxLen
def qQ(w:Y)(b:Nat)(L:LV):Prop:=∃c a,w.1[b]?=U (.map c a)/\zjv c a L
theorem qQ.lt{w:Y}{b:Nat}{L:LV}(h:qQ w b L):b<w.1.size:=by
 obtain⟨d,a,c,_⟩:=h;exact zb c
theorem qQ.kept{f:Nat->Prop}{w w':Y}{b:Nat}{L:LV}(h:qQ w b L)(g:zk f w w')(hn:¬f b):qQ w' b L:=by
 obtain⟨c,a,d,e⟩:=h;exact⟨c,a,g.heap d hn,e⟩
theorem qQ.later{w w':Y}{b:Nat}{L:LV}(h:qQ w b L)(a:Z w.1.size w w'):qQ w' b L:=
 h.kept (f:=fun _=>False) (zk.of_below a) (fun h=>h)
theorem qQ.wf{w:Y}{b:Nat}{L:LV}(h:qQ w b L):∀p∈L,p.1.wf:=by obtain⟨d,a,e,c⟩:=h;exact c.wf
theorem qQ.made(w:Y):qQ (w.alloc (.map #[] 0)) w.1.size []:=⟨#[],0,zr _ _,⟨rfl,by simp,by simp,by simp,by simp[zl],by simp⟩⟩
theorem zjv.keys{c:Array MapEntry}{a:Nat}{L:LV}(h:zjv c a L):∀e∈c.toList,∃l,keyOf prog 146 e.key=U l:=fun e d=>by
 have f:(e.key,e.val)∈L.map (fun p=>(yO p.1,yX p)):=h.kv▸List.mem_map.2 ⟨e,d,rfl⟩
 obtain⟨p,g,b⟩:=List.mem_map.1 f
 injection b with b i
 rw[<-b];exact Jm (h.wf p g)
theorem zjv.at{c:Array MapEntry}{a:Nat}{L:LV}(h:zjv c a L){j:Nat}{e:MapEntry}(f:c.toList[j]?=U e):∃p,L[j]?=U p/\e.key=yO p.1/\e.val=yX p:=by
 have b:(c.toList.map (fun e=>(e.key,e.val)))[j]?=U (e.key,e.val):=by simp[f]
 rw[h.kv,List.getElem?_map]at b
 cases d:L[j]? with
 |none=>simp[d]at b
 |some p=>
  rw[d]at b
  simp at b
  exact⟨p,rfl,b.1.symm,b.2.symm⟩
theorem zep{L:LV}{s:Sg}{j:Nat}{p:Sg×SV}(a:L[j]?=U p)(e:p.1=s):s∈zl L:=by
 unfold zl;exact List.mem_map.2 ⟨p,List.mem_of_getElem? a,e⟩
theorem zir{L:LV}(hn:(zl L).Nodup){j:Nat}{p:Sg×SV}(m:L[j]?=U p):ku L p.1=U p.2:=by
 obtain⟨v,hv,n⟩:=KH (zep m rfl)
 rw[hv]
 have k:=List.mem_of_getElem? m
 have:(p.1,v)=p:=by
  have f:L.Pairwise (fun a b=>a.1≠b.1):=by unfold zl at hn;exact List.pairwise_map.1 hn
  by_cases e:(p.1,v)=p
  ·exact e
  ·obtain⟨i,l,g⟩:=List.getElem_of_mem n
   obtain⟨i2,d,c⟩:=List.getElem_of_mem k
   rcases Nat.lt_trichotomy i i2 with h|h|h
   ·have:=List.pairwise_iff_getElem.1 f i i2 l d h;rw[g,c]at this;exact absurd rfl this
   ·subst h;rw[g]at c;exact c
   ·have:=List.pairwise_iff_getElem.1 f i2 i d l h;rw[g,c]at this;exact absurd rfl this
 rw[<-this]
def zaj(c:Bool)(z:G)(L:LV)(s:Sg):G:=match ku L s with
 |none=>if c then .tuple #[z,.bool false]else z
 |some v=>if c then .tuple #[yX (s,v),.bool true]else yX (s,v)
theorem zbO(c:Bool){w:Y}{b:Nat}{L:LV}(h:qQ w b L){s:Sg}(z:s.wf):
  (Instr.lookup 152 (.map (U b)) (yO s) c).run prog w=.ok (zaj c (yX zX) L s) w:=by
 obtain⟨q,g,r,f⟩:=h
 obtain⟨F,a⟩:=Jm z
 have B:(zeroValue 148).run prog w=.ok (yX zX) w:=by kernel_rfl
 rcases ZA.find w a q.toList f.keys with⟨i,k⟩|⟨j,C,i,k,u⟩
 ·have l:ku L s=O:=ya.2 (fun y=>by
   obtain⟨p,n,e⟩:=List.mem_map.1 (show s∈L.map (·.1)from y)
   have m:(yO p.1,yX p)∈q.toList.map (fun e=>(e.key,e.val)):=f.kv▸List.mem_map.2 ⟨p,n,rfl⟩
   obtain⟨x,A,ex⟩:=List.mem_map.1 m
   injection ex with t E
   exact k x A (by rw[t,e]))
  simp[Instr.lookup,run_underlying underlying152,MapKept.run_getObj_map r,ZA.check w _ a,i,B,Result.andThen,zaj,l]
 ·obtain⟨p,n,v,hv⟩:=f.at k
  have d:p.1=s:=zbT (v.symm.trans u)
  have l:ku L s=U p.2:=by rw[<-d];exact zir f.nodup n
  have o:p=(s,p.2):=by rw[<-d]
  rw[o]at hv
  simp[Instr.lookup,run_underlying underlying152,MapKept.run_getObj_map r,ZA.check w _ a,i,Result.andThen,zaj,l,hv]
theorem zja{b:Array MapEntry}{a:Nat}{L:LV}(h:zjv b a L):b.size=L.length:=by
 have:=congrArg List.length h.kv;simpa using this
theorem Jg{w:Y}{b:Nat}{L:LV}(h:qQ w b L)(X:L.length<maxLen){s:Sg}(hs:s.wf)(v:SV):
  ∃o,(Instr.mapUpdate 152 (.map (U b)) (yO s) (yX (s,v))).run prog w=.ok () (setBlock w b o)/\qQ (setBlock w b o) b (yL L s v)/\zk (fun k=>k=b) w (setBlock w b o)/\o.isCells=false:=by
 have Q:=h.lt
 have kp:∀o,zk (fun k=>k=b) w (setBlock w b o):=fun o=>⟨rfl,rfl,rfl,by simp[setBlock],fun k hk z=>by
  simp only[setBlock];rw[Array.getElem?_setIfInBounds_ne (fun e=>z e.symm)]⟩
 have B:∀o,(setBlock w b o).1[b]?=U o:=fun o=>by simp[setBlock,Q]
 obtain⟨r,g,H,d⟩:=h
 obtain⟨kl,t⟩:=Jm hs
 rcases ZA.find w t r.toList d.keys with⟨P,y⟩|⟨j,A,P,y,h3⟩
 ·have hg:s∉zl L:=(fun hm=>by
   obtain⟨p,f,e⟩:=List.mem_map.1 (show s∈L.map (·.1)from hm)
   have V:(yO p.1,yX p)∈r.toList.map (fun e=>(e.key,e.val)):=d.kv▸List.mem_map.2 ⟨p,f,rfl⟩
   obtain⟨x,n,ex⟩:=List.mem_map.1 V
   injection ex with e1 e2
   exact y x n (by rw[e1,e]))
  refine⟨.map (r.push ⟨yO s,yX (s,v),g⟩) (g+1),?_,⟨_,_,B _,?_⟩,kp _,rfl⟩
  ·simp[Instr.mapUpdate,run_underlying underlying152,MapKept.run_getObj_map H,ZA.check w false t,P,MapKept.run_setObj_map _ H,Result.andThen,setBlock]
  ·have f:yL L s v=L++[(s,v)]:=by unfold yL;rw[if_neg hg]
   refine⟨by rw[f];simp[d.kv],?_,?_,?_,kc d.nodup,by have:=zja d;simp;omega⟩
   ·intro x n
    simp at n
    rcases n with n|rfl
    ·have:=d.born x (by simpa using n);omega
    ·simp
   ·rw[Array.toList_push,List.map_append,List.nodup_append]
    refine⟨d.once,by simp,fun a ha c hc=>?_⟩
    simp at hc;subst hc
    obtain⟨x,n,rfl⟩:=List.mem_map.1 ha
    have:=d.born x n;omega
   ·rw[f];intro p f
    rcases List.mem_append.1 f with f|f
    ·exact d.wf p f
    ·simp at f;subst f;exact hs
 ·obtain⟨p,f,hk,hv⟩:=d.at y
  have u:p.1=s:=zbT (hk.symm.trans h3)
  have hj:r[j]?=U A:=by simpa using y
  have T:s∈zl L:=zep f u
  have l:(r.modify j (fun K=>{K with key:=yO s,val:=yX (s,v)})).toList=r.toList.set j {A with key:=yO s,val:=yX (s,v)}:=by rw[Array.toList_modify,modify_eq_set _ _ _ _ y]
  refine⟨.map (r.modify j (fun K=>{K with key:=yO s,val:=yX (s,v)})) g,?_,⟨_,_,B _,?_⟩,kp _,rfl⟩
  ·simp[Instr.mapUpdate,run_underlying underlying152,MapKept.run_getObj_map H,ZA.check w false t,P,hj,h3,ZA.stays w t,MapKept.run_setObj_map _ H,Result.andThen,setBlock]
  ·have E:yL L s v=L.set j (s,v):=by
    unfold yL;rw[if_pos T]
    apply List.ext_getElem?
    intro i
    rw[List.getElem?_map,List.getElem?_set]
    by_cases e:j=i
    ·subst e
     have m:j<L.length:=(List.getElem?_eq_some_iff.1 f).1
     rw[f];simp only[Option.map_some,u,if_true,m]
    ·rw[if_neg e]
     cases hi:L[i]? with
     |none=>simp
     |some q=>
      have z:q.1≠s:=fun eq=>by
       have F:L.Pairwise (fun a b=>a.1≠b.1):=List.pairwise_map.1 d.nodup
       obtain⟨C,ei⟩:=List.getElem?_eq_some_iff.1 hi
       obtain⟨m,ej⟩:=List.getElem?_eq_some_iff.1 f
       rcases Nat.lt_or_gt_of_ne e with h|h
       ·have:=List.pairwise_iff_getElem.1 F j i m C h;rw[ei,ej]at this;exact this (u.trans eq.symm)
       ·have:=List.pairwise_iff_getElem.1 F i j C m h;rw[ei,ej]at this;exact this (eq.trans u.symm)
      simp[z]
   refine⟨?_,?_,?_,?_,kc d.nodup,by simpa using d.size⟩
   ·rw[l,E,List.map_set,List.map_set,d.kv]
   ·intro x n
    rw[l]at n
    rcases List.mem_or_eq_of_mem_set n with n|rfl
    ·exact d.born x n
    ·exact d.born A (List.mem_of_getElem? y)
   ·rw[l,List.map_set]
    have:(r.toList.map (·.born)).set j A.born=r.toList.map (·.born):=by
     apply List.ext_getElem?
     intro i
     rw[List.getElem?_set]
     by_cases e:j=i
     ·subst e
      have m:j<r.toList.length:=(List.getElem?_eq_some_iff.1 y).1
      simp only[List.length_map,m,if_true,List.getElem?_map,y,Option.map_some]
     ·rw[if_neg e]
    show((r.toList.map (·.born)).set j A.born).Nodup
    rw[this];exact d.once
   ·intro q W
    rcases xS W with rfl|⟨W,_⟩
    ·exact hs
    ·exact d.wf q W
end Go.Proofs.YtndhpgciopcncaaGreatDoor
