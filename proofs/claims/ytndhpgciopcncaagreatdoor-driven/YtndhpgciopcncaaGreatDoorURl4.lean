import Derived.Test.YtndhpgciopcncaaGreatDoorURl2
import Derived.Test.YtndhpgciopcncaaGreatDoorUStp4
import Derived.Test.YtndhpgciopcncaaGreatDoorRows
import Derived.WalkKit
import Derived.ProofKit
import Derived.OpenShut
import Derived.ChangeOld
import Derived.Below
import Derived.SizedLaws
import Derived.Test.YtndhpgciopcncaaGreatDoorULad0
import Derived.Test.YtndhpgciopcncaaGreatDoorCards
import Derived.Test.YtndhpgciopcncaaGreatDoorTie
import Derived.Handed
import Derived.Handy
import Derived.Lay
import Derived.SevenTiedAt
open Go.Value renaming int → I
open Go.IntKind renaming i64 → J
open Nat renaming le_trans → O
open Go.RowKit.Below renaming refl → E
set_option linter.unusedVariables false
set_option maxRecDepth 100000
set_option maxHeartbeats 8000000
open Go.Proofs.Tryz
namespace Go.Proofs.YtndhpgciopcncaaGreatDoor
open Go.RowKit Go.Maps Go.Shelf
def zbK(c:Cf)(m:MS)(ns:List Nm):Prop:=∀x∈ns,∀t:Int,-1<=t->t<c.n->(xB c m.now m.Gl m.L t x.sr (x.tm/c.wt t)).2≠11/\((xB c m.now m.Gl m.L t x.sr (x.tm/c.wt t)).2=0->(x.tm/c.wt t+1)*c.wt t+c.keep t<=m.now->Y3 c m t x)
theorem zbx{w:World}{B:Nat}{s:Shp}{c:Cf}{ep:Int}{m:MS}{ns:List Nm}{ks:List Tok}{us:List Int}(h:zI w B s c ep m m.now ns ks us)(G:c.ok)(Y:c.fits)(hm:MOk c ep m)(Z:vy c m ns)(v:ns.length<4398046511104)(l:Bool)(f:l=true->zbK c m ns):
  Calls prog 14 #[.pointer (some ⟨s.p,0,none⟩),.bool l] w fun e w'=>e=.returned (.bool true)/\Below w.1.size w w':=by
 have H:=zd h
 have C:=fun(W:World) (hW:Below w.1.size w W) (x:Nm) (z:x∈ns) (t:Int) (Q: -1<=t/\t<c.n)=>zd (zdJ (h.later hW) G Y hm Z v x z t Q l (fun e=>f e x z t Q.1 Q.2))
 obtain⟨an,cn,q⟩:=zS h.nrow
 obtain⟨b,aa,cap,u,a1,K⟩:=h.tiers G
 have a7:=G.n4
 clear h hm Z f Y K
 go_enter func14,ntmps14
 go_wp2_with fail
 go_loopw [5,6,7] (fun y _ _ wr=>∃k:Nat,k<=ns.length/\y=I J k/\Below w.1.size w wr) (fun y _ _ _=>ns.length-(intOf y).toNat)
 case atStart=>exact⟨0,Nat.zero_le _,rfl,E _ _⟩
 case round=>
  obtain⟨k,hk,rfl,d⟩:=hrel
  have a:=(ud H).later d
  obtain⟨-,-,-,-,-,c8,-,D,-,-⟩:=a.cells
  rw[q]at D
  rw[u]at c8
  have a9:=a.lt
  have a6:(ns.length:Int)<4398046511104:=by omega
  have a8:(c.n:Int)<=4:=by omega
  have HS:=zd a
  have T:=zd d
  by_cases N:k<ns.length
  ·obtain⟨x,z⟩:=ja N
   have S:=List.mem_of_getElem? z
   have a5:(k:Int)<ns.length:=by omega
   clear a d
   go_wp2_with fail
   go_loopw [6,7] (fun y _ wr=>∃j:Nat,j<=c.n+1/\y=I J ((j:Int)-1)/\Below w.1.size w wr) (fun y _ _=>c.n+1-(intOf y+1).toNat)
   case atStart=>exact⟨0,Nat.zero_le _,rfl,ud T⟩
   case round=>
    obtain⟨j,hj,rfl,d⟩:=hrel
    have a:=(ud H).later d
    obtain⟨-,-,-,-,-,d8,-,F,-,-⟩:=a.cells
    rw[q]at F
    rw[u]at d8
    have a0:=a.lt
    have i:=zd d
    by_cases a3:j<c.n+1
    ·have L:(j:Int)-1<c.n:=by omega
     have o:=a.nrow
     rw[q]at o
     obtain⟨g,X,hv,_,a2,y0,y1,y2⟩:=zjb o z
     have R:an=some ⟨g,0,none⟩:=by injection hv
     subst R
     have U:=C _ d x S ((j:Int)-1) ⟨by omega,L⟩
     clear a d o hv
     go_wp2_with fail
     refine(ud U).mono ?_
     rintro e V ⟨rfl,r⟩
     have A:=zd ((ud i).trans (r.mono (ud i).size))
     clear r U
     go_wp2_with fail
     go_roundw
     case rel=>exact⟨j+1,by omega,by go_num,ud A⟩
     case measure=>simp[intOf];omega
    ·have a4:(j:Int)-1=c.n:=by omega
     have P:decide ((j:Int)-1<c.n)=false:=by simp;omega
     clear a d
     go_wp2_with fail
     go_roundw
     case rel=>exact⟨k+1,by omega,by go_num,ud i⟩
     case measure=>simp[intOf];omega
  ·have M:k=ns.length:=by omega
   subst M
   have P:decide ((ns.length:Int)<ns.length)=false:=by simp
   clear a d
   go_wp2_with fail
   go_ret
   exact⟨rfl,ud T⟩
section
variable {c:Cf} {ep:Int} {m:MS} {ns:List Nm}
theorem XW{e:List (Jk×Tsk)}(a:qv c m e)(hn:0<=m.now)(h:∀p∈m.TL,p.2.rest<=m.now):∀p∈e,p.2.rest<=m.now:=by
 obtain⟨l,g,i,q,n,o,rfl⟩:=a.to
 have k:∀(d:List Sg) (T:List (Jk×Tsk)),(∀p∈T,p.2.rest<=m.now)->∀p∈d.foldl (yr m.now) T,p.2.rest<=m.now:=fun d=>by
  induction d with
  |nil=>exact fun T b=>b
  |cons y d f=>
   intro T b
   refine f _ (fun p a=>?_)
   unfold yr at a
   split at a
   ·exact b p a
   ·rcases qs a with rfl|⟨a,_⟩
    ·exact hn
    ·exact b p a
 have j:∀(d:List Sg) (T:List (Jk×Tsk)),(∀p∈T,p.2.rest<=m.now)->∀p∈d.foldl (yL m.now) T,p.2.rest<=m.now:=fun d=>by
  induction d with
  |nil=>exact fun T b=>b
  |cons y d f=>
   intro T b
   refine f _ (fun p a=>?_)
   unfold yL at a
   split at a
   ·exact b p a
   ·rcases qs a with rfl|⟨a,_⟩
    ·exact hn
    ·exact b p a
 exact j i _ (k g _ h)
theorem zeS(l:c.ok)(m:c.fits){now:Int}{s k:Sg}(g:inR c k)(h:s∈kS c k)(e:c.clo now s):∃j:Nat,j<c.n/\s.t=j/\c.F j=k.t/\c.clo now k:=by
 unfold kS Y7 at h
 rw[List.map_map]at h
 obtain⟨j,o,rfl⟩:=List.mem_map.1 h
 obtain⟨b,d⟩:=List.mem_filter.1 o
 have a:j<c.n:=by simpa using b
 have f:c.F j=k.t:=by simpa using d
 refine⟨j,a,rfl,f,?_⟩
 obtain⟨q,p,i⟩:=m.quot j a
 rw[f]at i
 have w:=(l.wt g.2.1 g.2.2.1).1
 unfold Cf.clo at e ⊢
 dsimp only[Function.comp]at e
 rw[yv,i,Int.mul_comm k.wa,Int.mul_ediv_mul_of_pos _ _ (by omega)]at e
 have r:k.wa<(k.wa/q+1)*q:=Int.lt_ediv_add_one_mul_self _ (by omega)
 have u:(k.wa+1)*c.wt k.t<=(k.wa/q+1)*q*c.wt k.t:=Int.mul_le_mul_of_nonneg_right (by omega) (by omega)
 have v:(k.wa/q+1)*q*c.wt k.t=(k.wa/q+1)*(c.wt k.t*q):=by rw[Int.mul_assoc,Int.mul_comm q]
 omega
theorem J6(z:c.ok)(A:c.fits)(l:MOk c ep m)(D:Y5 c m)(w:m.TL=[]):∀(d:Nat) (s:Sg),0<=s.t->s.t<c.n->down c.F d s.t=true->Wt m.L s->c.clo m.now s->False:=by
 obtain⟨r,y,x,P⟩:=D
 intro d
 induction d with
 |zero=>intro s _ _ f;simp[down]at f
 |succ d N=>
  intro s H K f M a
  obtain⟨p,q⟩:=zah l.seg.nl M
  by_cases u:s∈zy r
  ·obtain⟨h,b,g,C⟩:=(y s).1 u
   have hin:inR c h:=l.seg.inr _ (xu b)
   obtain⟨j,Q,o,i,e⟩:=zeS z A hin C a
   by_cases v:h.t= -1
   ·have:=(l.seg.raw _ (xu b) v).1
    simp only at this
    omega
   ·have B: -1<=h.t:=hin.2.1
    have k:down c.F d h.t=true:=by
     rw[o]at f
     simp only[down,Int.toNat_natCast,i,Bool.or_eq_true,beq_iff_eq]at f
     exact f.resolve_left v
    exact N h (by omega) hin.2.2.1 k ⟨_,xu b,g⟩ e
  ·have G:vx c r m.L m.now s=true:=by
    unfold vx
    rw[xR.2 u,q]
    unfold Cf.clo at a
    simpa using a
   have:=x s p G
   rw[w]at this
   simp[zy]at this
theorem zhB(h:c.ok)(e:c.fits)(d:MOk c ep m)(j:Y5 c m)(g:m.TL=[]):∀(k:Nat) (s:Sg),s.t=k->Wt m.L s->c.clo m.now s->False:=fun k s i f a=>by
 have hin:=d.mem_inR (zah d.seg.nl f).1
 have b:k<c.n:=by have:=hin.2.2.1;omega
 exact J6 h e d j g c.n s (by omega) hin.2.2.1 (by rw[i];exact e.dn k b) f a
theorem zeF(C:c.ok)(K:c.fits)(G:MOk c ep m)(D:vy c m ns)(Z:Y5 c m)(U:m.TL=[]):zbK c m ns:=fun x H t g i=>by
 have w:=zhB C K G Z U
 have A:∀(t:Int),-1<=t->t<c.n->c.clo m.now (zB c t x)->xB c m.now m.Gl m.L t x.sr (x.tm/c.wt t)=qk (stG m.Gl m.L (zB c t x)):=fun t d a u=>by
  unfold Cf.clo at u
  unfold xB
  rw[if_neg (by simp only[zB]at u;omega)]
  rfl
 have v:∀k:Nat,k<c.n->Wt m.L (zB c k x)->(xB c m.now m.Gl m.L k x.sr (x.tm/c.W k)).2=9:=fun k r hw=>by
  have f:¬c.clo m.now (zB c (k:Int) x):=fun h=>w k _ rfl hw h
  unfold Cf.clo at f
  unfold xB
  rw[if_pos (by simp only[zB]at f;rw[yv]at f ⊢;omega)]
 have Y:=D.told C K G H g i
 refine⟨fun e=>?_,fun e Q=>?_⟩
 ·rcases Y with⟨d,a⟩|⟨d,a,s⟩|⟨d,a,s⟩|⟨d,a,s,h4⟩
  ·rw[a]at e;simp at e
  ·rw[a]at e;simp at e
  ·rw[A t g i d]at e
   have l:zB c t x∉zy m.Gl:=fun l=>by unfold qk at e;rw[Xd l]at e;simp at e
   have r:zB c t x∈zr m.L:=(D.keys x H t g i).resolve_right l
   rw[Xe l]at e
   have o:(stL m.L (zB c t x)).st=2:=by
    unfold qk at e
    rcases G.seg.sts _ (xu r)with h|h|h
    ·simp only at h;rw[h]at e;simp at e
    ·exact h
    ·simp only at h;rw[h]at e;simp at e
   exact w t.toNat (zB c t x) (by show t=_;omega) ⟨_,xu r,o⟩ d
  ·rw[a]at e;simp at e
 ·rcases Y with⟨d,a⟩|⟨d,a,s⟩|⟨d,a,s⟩|⟨d,a,s,h4⟩
  ·rw[a]at e;simp at e
  ·rw[A t g i d]at e
   have l:zB c t x∉zy m.Gl:=fun l=>by unfold qk at e;rw[Xd l]at e;simp at e
   have r:zB c t x∈zr m.L:=(D.keys x H t g i).resolve_right l
   have hin:=G.seg.inr _ (xu r)
   rw[Xe l]at e
   have o:(stL m.L (zB c t x)).st≠2:=fun h=>by unfold qk at e;rw[h]at e;simp at e
   obtain⟨Bs,hB,a0,R⟩:=Z
   apply Classical.byContradiction
   intro z
   have hr:vm c m.L m.now (zB c t x)=true:=by
    unfold vm
    have M:ZI c m.L (zB c t x)=true:=by
     unfold ZI
     have h5:((kr c (zB c t x)).filter (fun y=>(stL m.L y.1).st==2))=[]:=by
      rw[List.filter_eq_nil_iff]
      intro y hy S
      have q:=(vN C hin y.1).1 (List.mem_map.2 ⟨y,hy,rfl⟩)
      have b:(stL m.L y.1).st=2:=by simpa using S
      have B:y.1∈zr m.L:=by
       apply Classical.byContradiction
       intro hn
       have:stL m.L y.1=⟨0,xY⟩:=by unfold stL;rw[yp.2 hn];rfl
       rw[this]at b;simp at b
      unfold kS Y7 at q
      rw[List.map_map]at q
      obtain⟨j,hj,ej⟩:=List.mem_map.1 q
      obtain⟨N,P⟩:=List.mem_filter.1 hj
      have p:j<c.n:=by simpa using N
      have X:c.F j=t:=by have:c.F j=(zB c t x).t:=by simpa using P
                         exact this
      have T:y.1=zB c j x:=by
       rw[<-ej]
       show(⟨(j:Int),x.sr,x.tm/c.wt t*c.wt t/c.W j⟩:Sg)=zB c j x
       have:=zgr C K (D.tm x H).1 p
       rw[X]at this
       rw[this]
       unfold zB;rw[yv]
      rw[T]at B b
      have V:=v j p ⟨_,xu B,b⟩
      exact z ⟨j,p,X,by unfold XZ;rw[V];omega,by unfold XZ;rw[V];omega⟩
     rw[h5];rfl
    rw[M]
    simp only[Bool.and_true,Bool.and_eq_true,Bool.not_eq_true',beq_eq_false_iff_ne,ne_eq,decide_eq_true_eq]
    exact⟨o,Q⟩
   have:=R _ r hr
   rw[U]at this
   simp[zy]at this
  ·rw[a]at e;simp at e
  ·rw[a]at e;simp at e
end
structure YU(c:Cf)(ep:Int)(m:MS)(ns:List Nm):Prop where
 ok:SOk c ep m ns.length
 inv:vy c m ns
 comp:Y5 c m
 free:m.QL=[]
 rest:∀p∈m.TL,p.2.rest<=m.now
def JS(v:SV):Int:=if v.st=2 then 2 else 1
def phi(L:LV):Int:=qr (L.map (fun p=>JS p.2))
theorem Zx:∀(L:LV),(∀p∈L,p.2.st=1\/p.2.st=2\/p.2.st=3)->0<=phi L/\phi L<=2*(zg L 1+zg L 2+zg L 3)
 |[],_=>by simp[phi,zg,qr]
 |p::L,h=>by
  have g:=Zx L (fun q f=>h q (by simp[f]))
  have a:=h p (by simp)
  unfold phi zg at*
  simp only[List.map_cons,qr]
  have b:JS p.2=(if p.2.st=2 then 2 else 1):=rfl
  have c:Qz 1 p.2=(if p.2.st=1 then 1 else 0):=rfl
  have d:Qz 2 p.2=(if p.2.st=2 then 1 else 0):=rfl
  have e:Qz 3 p.2=(if p.2.st=3 then 1 else 0):=rfl
  rw[b,c,d,e]
  rcases a with a|a|a<;>rw[a]<;>simp<;>omega
section
variable {c:Cf} {ep:Int} {m m1 m2:MS} {ns:List Nm}
theorem Kn{now:Int}{TL:List (Jk×Tsk)}{QL:List (Tok×Lse)}{b:List (Jk×Tsk)}{Q1:List (Tok×Lse)}(h:YV now TL QL b Q1):∀q∈Q1,q∈QL:=by
 induction h with
 |nil=>exact fun q a=>a
 |step d e f g c=>exact fun q a=>c q (xc.1 a).1
theorem zcw{now:Int}{TL:List (Jk×Tsk)}{a:List (Jk×Tsk)}{Q1:List (Tok×Lse)}(h:YV now TL [] a Q1):a=TL/\Q1=[]:=by
 cases h with
 |nil=>exact⟨rfl,rfl⟩
 |step b c d e=>exact absurd (Kn b _ (zO c)) (by simp)
theorem Jw{n:Int}{f:List Nm}(hn:1<=n)(h:qP c ep m ns m1 f)(a:m1.now=m.now+n):∃e d b,YV (m.now+n) m.TL m.QL e b/\(∀p∈b,m.now+n<p.2.til)/\qv c {m with now:=m.now+n,TL:=e,QL:=b} d/\m1={m with now:=m.now+n,TL:=d,QL:=b}:=by
 cases h with
 |same=>omega
 |added x=>exact absurd a (by show¬m.now=m.now+n;omega)
 |ticked k e d b o q g l j=>
  have i:k=n:=by have:m.now+k=m.now+n:=a;omega
  subst i
  exact⟨e,d,b,g,l,j,rfl⟩
 |taken=>exact absurd a (by show¬m.now=m.now+n;omega)
 |failed=>exact absurd a (by show¬m.now=m.now+n;omega)
 |rolled=>exact absurd a (by show¬m.now=m.now+n;omega)
 |reclaimed=>exact absurd a (by show¬m.now=m.now+n;omega)
theorem YU.start(f:c.ok)(j:c.fits)(v:SOk c ep m ns.length)(G:vy c m ns)(e:(ns.length:Int)<9223372036854775808)(k:qP c ep m ns m1 ns)(P:m1.now=m.now+100)(l:qP c ep m1 ns m2 ns)(R:m2.now=m1.now+32):YU c ep m2 ns:=by
 have d:=k.ok f j v
 have r:=G.act f j v e k
 have w:=l.ok f j d
 have s:=r.act f j d e l
 have H:=f.le
 obtain⟨T,y,Q1,o,t,L,A⟩:=Jw (by omega) k P
 have n:m1.QL=[]:=by
  rw[A]
  cases F:Q1 with
  |nil=>rfl
  |cons q Q=>
   have i:q∈Q1:=by rw[F];simp
   have a:=t q i
   have b:=(v.ok.leas q (Kn o q i)).til
   omega
 obtain⟨U,z,S,g,M,h,B⟩:=Jw (by omega) l R
 rw[n]at g
 obtain⟨D,C⟩:=zcw g
 subst D C
 have N:∀p∈m1.TL,p.2.rest<=m1.now+32:=fun p K=>(d.ok.td p K).ti.2.2
 have x:=d.ok.now
 have u:=XW h (show 0<=m1.now+32 by omega) N
 have hc2:=Y5.of h
 subst B
 exact⟨w,s,hc2,rfl,u⟩
theorem YU.free_all(h:YU c ep m ns){p:Jk×Tsk}(a:p∈m.TL):yJ m.QL m.now p.2=true:=by
 unfold yJ kh
 rw[h.free]
 have:=h.rest p a
 simpa using this
theorem YU.idle(h:YU c ep m ns)(d:∀p∈m.TL,yJ m.QL m.now p.2=false):m.TL=[]:=by
 cases b:m.TL with
 |nil=>rfl
 |cons p T=>
  have a:p∈m.TL:=by rw[b];simp
  have:=d p a
  rw[h.free_all a]at this
  cases this
theorem zhe{t:Tok}{g:Lse}:zQ [(t,g)] t=some g:=by simp[zQ]
theorem zcq{t:Tok}{g:Lse}:xe [(t,g)] t=[]:=by simp[xe]
def qd(ep:Int)(c:Cf)(m:MS)(p:Jk×Tsk):MS:={m with num:=m.num+1,QL:=qq m.QL ⟨ep,m.num+1⟩ ⟨p.2.kd,p.2.s,0,m.now+c.le⟩}
theorem YU.taken(e:c.ok)(f:c.fits)(h:YU c ep m ns)(a:(ns.length:Int)<9223372036854775808){p:Jk×Tsk}(b:p∈m.TL):
  SOk c ep (qd ep c m p) ns.length/\vy c (qd ep c m p) ns/\(qd ep c m p).QL=[(⟨ep,m.num+1⟩,⟨p.2.kd,p.2.s,0,m.now+c.le⟩)]/\zQ (qd ep c m p).QL ⟨ep,m.num+1⟩=some ⟨p.2.kd,p.2.s,0,m.now+c.le⟩/\zQ (qd ep c m p).TL ⟨p.2.kd,p.2.s⟩=some p.2:=by
 have d:=qP.taken (c:=c) (ep:=ep) m ns p 0 b (h.free_all b)
 have g:(qd ep c m p).QL=[(⟨ep,m.num+1⟩,⟨p.2.kd,p.2.s,0,m.now+c.le⟩)]:=by unfold qd;rw[h.free];rfl
 refine⟨d.ok e f h.ok,h.inv.act e f h.ok a d,g,by rw[g];exact zhe,?_⟩
 have i:=(h.ok.ok.td p b).key
 exact qB h.ok.ok.nt (by rw[show(⟨p.2.kd,p.2.s⟩:Jk)=p.1 from i.symm];exact b)
theorem YU.roll(g:c.ok)(i:c.fits)(h:YU c ep m ns)(a:(ns.length:Int)<9223372036854775808){p:Jk×Tsk}(x:p∈m.TL){s:Sg}{se ti rest:Int}(z:p.2=⟨true,s,se,ti,rest⟩){k:Nat}(w:s.t=k){b:List (Jk×Tsk)}
  (f:qv c {qd ep c m p with L:=qT m.L s ⟨3,xi (zW c m.L s.sr s.wa k)⟩,Gl:=m.Gl,TL:=xe m.TL ⟨p.2.kd,p.2.s⟩,QL:=xe (qd ep c m p).QL ⟨ep,m.num+1⟩} b):
  YU c ep {qd ep c m p with L:=qT m.L s ⟨3,xi (zW c m.L s.sr s.wa k)⟩,Gl:=m.Gl,TL:=b,QL:=xe (qd ep c m p).QL ⟨ep,m.num+1⟩} ns/\phi (qT m.L s ⟨3,xi (zW c m.L s.sr s.wa k)⟩)=phi m.L-1:=by
 obtain⟨e,t2,t3,t4,t5⟩:=h.taken g i a x
 have d:zQ (qd ep c m p).TL (⟨p.2.kd,p.2.s,0,m.now+c.le⟩:Lse).job=some ⟨true,s,se,ti,rest⟩:=by rw[<-z];exact t5
 have o:=qP.rolled (c:=c) (ep:=ep) (qd ep c m p) ns _ _ s se ti rest k b t4 d w f
 have j:=(e.ok.rolled t4 d rfl (xi (zW c m.L s.sr s.wa k))).2.1 JS
 have n:=(e.ok.rolled t4 d rfl (xi (zW c m.L s.sr s.wa k))).2.2.1
 have l:=XW f (show 0<=m.now from h.ok.ok.now.1) (fun q y=>h.rest q (xc.1 (show q∈xe m.TL ⟨p.2.kd,p.2.s⟩from y)).1)
 refine⟨⟨o.ok g i e,t2.act g i e a o,Y5.of f,by rw[t3];exact zcq,l⟩,?_⟩
 have r:JS (stL (qd ep c m p).L s)=2:=by unfold JS;rw[if_pos n]
 have u:JS ⟨3,xi (zW c m.L s.sr s.wa k)⟩=1:=by unfold JS;simp
 have v:phi (qT m.L s ⟨3,xi (zW c m.L s.sr s.wa k)⟩)=phi m.L-JS (stL (qd ep c m p).L s)+JS ⟨3,xi (zW c m.L s.sr s.wa k)⟩:=j
 rw[v,r,u]
 omega
theorem YU.reclaim(g:c.ok)(i:c.fits)(h:YU c ep m ns)(a:(ns.length:Int)<9223372036854775808){p:Jk×Tsk}(r:p∈m.TL){s:Sg}{se ti rest:Int}(u:p.2=⟨false,s,se,ti,rest⟩){b:List (Jk×Tsk)}
  (f:qv c {qd ep c m p with L:=xe m.L s,Gl:=qq m.Gl s (),TL:=xe m.TL ⟨p.2.kd,p.2.s⟩,QL:=xe (qd ep c m p).QL ⟨ep,m.num+1⟩} b):
  YU c ep {qd ep c m p with L:=xe m.L s,Gl:=qq m.Gl s (),TL:=b,QL:=xe (qd ep c m p).QL ⟨ep,m.num+1⟩} ns/\phi (xe m.L s)=phi m.L-1:=by
 obtain⟨e,t2,t3,t4,t5⟩:=h.taken g i a r
 have d:zQ (qd ep c m p).TL (⟨p.2.kd,p.2.s,0,m.now+c.le⟩:Lse).job=some ⟨false,s,se,ti,rest⟩:=by rw[<-u];exact t5
 have n:=qP.reclaimed (c:=c) (ep:=ep) (qd ep c m p) ns _ _ s se ti rest b t4 d f
 have j:=(e.ok.reclaimed t4 d rfl).2.1 JS
 have l:=(e.ok.reclaimed t4 d rfl).2.2.1
 have k:=XW f (show 0<=m.now from h.ok.ok.now.1) (fun q t=>h.rest q (xc.1 (show q∈xe m.TL ⟨p.2.kd,p.2.s⟩from t)).1)
 refine⟨⟨n.ok g i e,t2.act g i e a n,Y5.of f,by rw[t3];exact zcq,k⟩,?_⟩
 unfold phi
 have o:JS (stL (qd ep c m p).L s)=1:=by unfold JS;rw[if_neg l]
 have:=j
 show qr ((xe m.L s).map (fun p=>JS p.2))=qr (m.L.map (fun p=>JS p.2))-1
 rw[<-o]
 exact this
end
theorem Ki{w:World}{i:Ids}{c:Cf}{m:MS}{ns:List Nm}{p:Jk×Tsk}(h:zC w i c 1 (qd 1 c m p))(d:c.ok)(F:c.fits)(f:YU c 1 m ns)(a:(ns.length:Int)<9223372036854775808)(u:p∈m.TL)(N:m.num<=1000000000000000):
  Calls prog 20 #[.pointer (some ⟨i.x,0,none⟩),.agg #[I J 1,I J (m.num+1)]] w fun e w'=>e=.returned (I J 0)/\∃m',zC w' i c 1 m'/\Kx i w w'/\YU c 1 m' ns/\phi m'.L=phi m.L-1/\m'.now=m.now/\m'.num=m.num+1:=by
 obtain⟨j,t2,t3,t4,t5⟩:=f.taken d F a u
 have H:=f.ok.ok.td p u
 have hin:=f.ok.ok.mem_inR H.mem
 have R:=f.ok.ok.num
 have r:(⟨1,m.num+1⟩:Tok).wf:=⟨by unfold xh;dsimp only;omega,by unfold xh;dsimp only;omega⟩
 have o:(⟨p.2.kd,p.2.s,0,m.now+c.le⟩:Lse).job.wf:=by
  refine⟨?_,hin.1⟩
  show xh p.2.kd
  unfold Tsk.kd xh
  split<;>omega
 have q:=j.ok.seg.len400 d
 have Q:=j.gl d
 have S:=j.ok.t800 d
 cases l:p.2 with
 |mk rl s se ti rest=>
  have v:p.2.s=s:=by rw[l]
  cases rl with
  |true=>
   have G:∃k:Nat,s.t=k:=by
    have P:=H.roll (by rw[l])
    have K:=xu H.mem
    rw[v]at P K
    refine⟨s.t.toNat,?_⟩
    by_cases e:s.t= -1
    ·have:=(f.ok.ok.seg.raw _ K e).1
     simp only at this
     omega
    ·have:=hin.2.1
     rw[v]at this
     omega
   obtain⟨k,M⟩:=G
   have b:zQ (qd 1 c m p).TL (⟨p.2.kd,p.2.s,0,m.now+c.le⟩:Lse).job=some ⟨true,s,se,ti,rest⟩:=by rw[<-l];exact t5
   have n:=(j.ok.rolled t4 b rfl (xi (zW c m.L s.sr s.wa k))).1
   have g:=n.seg.len400 d
   refine(jH h d _ r t4 o s se ti rest b (v▸hin) k M (O q (by decide)) (by omega) n.seg.inr (O g (by decide)) j.ok.now (by omega)).mono ?_
   rintro e w' ⟨rfl,y,C,B,D⟩
   obtain⟨z,A⟩:=f.roll d F a u l M D
   exact⟨rfl,_,C,B,z,A,rfl,rfl⟩
  |false=>
   have b:zQ (qd 1 c m p).TL (⟨p.2.kd,p.2.s,0,m.now+c.le⟩:Lse).job=some ⟨false,s,se,ti,rest⟩:=by rw[<-l];exact t5
   have n:=(j.ok.reclaimed t4 b rfl).1
   have g:=n.seg.len400 d
   refine(kG h d _ r t4 o s se ti rest b (v▸hin) (O q (by decide)) (by omega) n.seg.inr (O g (by decide)) j.ok.now (by omega)).mono ?_
   rintro e w' ⟨rfl,y,C,B,D⟩
   obtain⟨z,A⟩:=f.reclaim d F a u l D
   exact⟨rfl,_,C,B,z,A,rfl,rfl⟩
theorem JP(k:Int):∀L:LV,0<=zg L k/\zg L k<=L.length
 |[]=>by simp[zg,qr]
 |p::L=>by
  have b:=JP k L
  unfold zg at*
  simp only[List.map_cons,qr,List.length_cons]
  have a:0<=Qz k p.2/\Qz k p.2<=1:=by unfold Qz;split<;>omega
  omega
theorem zay(s le la wi ke qu:Int)(a:Option Addr)(n cap:Nat)(F0 W0 K0:Nat->Int)(sa:Option Addr)(n2 N:Nat)(G:Nat->Y4)(w:World)(U:ZR w)(h1: -9223372036854775808<=s/\s<=9223372036854775807)(h2: -9223372036854775808<=le/\le<=9223372036854775807)(h3: -9223372036854775808<=la/\la<=9223372036854775807)(h4: -9223372036854775808<=wi/\wi<=9223372036854775807)(h5: -9223372036854775808<=ke/\ke<=9223372036854775807)(h6: -9223372036854775808<=qu/\qu<=9223372036854775807)(aO:TS w a n F0 W0 K0)(hn:n<=140737488355328)(hF:∀i,i<n-> -9223372036854775808<=F0 i/\F0 i<=9223372036854775807)(hW:∀i,i<n-> -9223372036854775808<=W0 i/\W0 i<=9223372036854775807)(hK:∀i,i<n-> -9223372036854775808<=K0 i/\K0 i<=9223372036854775807)(aH:KS w sa n2 G)(b0:n2<4398046511104)(hG:∀i,i<n2->(G i).fits):
  Calls prog 7 #[.agg #[I J s,I J le,I J la,I J wi,I J ke,I J qu,.slice a n cap],.slice sa n2 N] w fun e w'=>e=.returned (.bool true)/\Below w.1.size w w':=by
 have h:Below w.1.size w (w.alloc (.cells #[I J s,I J le,I J la,I J wi,I J ke,I J qu,.slice a n cap] 27)):=(E _ _).alloc (Nat.le_refl _) _
 have q0:=zm w (.cells #[I J s,I J le,I J la,I J wi,I J ke,I J qu,.slice a n cap] 27)
 obtain⟨r0,r1,r2,r3,r4,r5,r6,-⟩:=zc q0
 have bm:=za q0
 have R:KS (w.alloc (.cells #[I J s,I J le,I J la,I J wi,I J ke,I J qu,.slice a n cap] 27)) sa n2 G:=fun h0=>by
  obtain⟨b,b5,e,aI,aV⟩:=aH h0
  have e2:∀o,(w.alloc (.cells #[I J s,I J le,I J la,I J wi,I J ke,I J qu,.slice a n cap] 27)).cell? ⟨b,o,none⟩=w.cell? ⟨b,o,none⟩:=fun o=>h.cell (p:=⟨b,o,none⟩) aI
  exact⟨b,b5,e,Nat.lt_of_lt_of_le aI h.size,fun i hi=>by simp only[e2];exact aV i hi⟩
 have am:=zd (zbd s le la wi ke qu a n cap F0 W0 K0 sa n2 N G (w.alloc (.cells #[I J s,I J le,I J la,I J wi,I J ke,I J qu,.slice a n cap] 27)) (jC U h) h1 h2 h3 h4 h5 h6 (aO.below h) hn hF hW hK R b0 hG)
 clear U
 have Z:=zd h
 clear h q0 h1 h2 h3 h4 h5 h6 aO hF hW hK aH hG R
 go_enter func7,ntmps7
 go_wp2_with fail
 generalize(w.alloc (.cells #[I J s,I J le,I J la,I J wi,I J ke,I J qu,.slice a n cap] 27))=X at*
 refine(ud am).mono ?_
 rintro e w1 ⟨c,p,B,m,ns,l,hf,rfl,hB,aM,aL,aE⟩
 have aD:Below w.1.size w w1:=(ud Z).trans (aE.mono (ud Z).size)
 have b4:w.1.size<=X.1.size:=(ud Z).size
 have H:w.1.size<=B:=O b4 hB
 have aq:=zd aM
 have an:=zd aL
 have ag:=zd aD
 obtain⟨s0,k0,aK,a6,bg,ae,b6,b8⟩:=aM
 have x9:=(a6.cells).2.2.2.2.2.2.1
 have K:=a6.lt
 rw[aK]at x9 K
 obtain⟨bw,bx⟩:=ae.ok.now
 have aW:xh 1:=by unfold xh;omega
 have S:(ns.length:Int)<9223372036854775808:=by omega
 have ak:=zd ae
 clear aL aD aE am r0 r1 r2 r3 r4 r5 r6 a6 ae aK
 by_cases aY:100000<m.now+100+32
 ·go_wp2_with fail
  go_ret
  exact⟨rfl,ud ag⟩
 ·have bj:decide (100000<m.now+100+32)=false:=by simp;omega
  have av:=zd (Vr (ud aq) l hf 100 (by omega) (by omega) (by omega))
  go_wp2_with fail
  refine(ud av).mono ?_
  rintro e w2 ⟨rfl,m1,ax,aJ,v,P⟩
  have aw:=zd (Vr v l hf 32 (by omega) (by omega) (by omega))
  have ar:=zd v
  have W:=zd (And.intro ax aJ)
  have ah:=zd ((ud ag).trans (P.bel.mono H))
  clear v ax aJ P av x9 K aq
  go_wp2_with fail
  refine(ud aw).mono ?_
  rintro e w3 ⟨rfl,m2,ay,T,aN,Q⟩
  have az:=YU.start l hf (ud ak) (ud an) S (ud W).1 (ud W).2 ay T
  have a0:=zd ((ud ah).trans (Q.bel.mono H))
  obtain⟨s2,k2,u,f,bh,F,b7,b9⟩:=aN
  have aP:=F.ok.seg.u0 l
  have bi:=F.ok.seg.len400 l
  have au:=zd (qa f.mill l ⟨aP.1,by omega⟩ (by omega))
  have x0:=(f.cells).1
  have K:=f.lt
  rw[u]at x0 K
  have af:=Zx m2.L F.ok.seg.sts
  have D:=fun k=>JP k m2.L
  obtain⟨bq,br⟩:=D 1
  obtain⟨bs,bt⟩:=D 2
  obtain⟨bu,bv⟩:=D 3
  have ao:=zd f
  have aj:=zd az
  have al:=zd af
  clear az af f F Q aw ah ar W ak an ay T D aP
  go_wp2_with fail
  refine(ud au).mono ?_
  rintro e V4 ⟨rfl,a8⟩
  have aa:=a8.alloc a8.size (.cells #[I J m2.now,I J (zp m2.L),I J (xv (xa (zp m2.L) c.qu)),I J 1,I J (zg m2.L 1),I J (zg m2.L 2),I J (zg m2.L 3),I J m2.Gl.length] 37)
  have q4:=zm V4 (.cells #[I J m2.now,I J (zp m2.L),I J (xv (xa (zp m2.L) c.qu)),I J 1,I J (zg m2.L 1),I J (zg m2.L 2),I J (zg m2.L 3),I J m2.Gl.length] 37)
  obtain⟨-,-,-,-,t4,t5,t6,-⟩:=zc q4
  have tl:=za q4
  have ap:=zd ((ud ao).later aa)
  have ai:=zd ((ud a0).trans (aa.mono (ud a0).size))
  clear a8 aa q4 au x0 K ao a0
  go_wp2_with fail
  have aU:0<=2*(zg m2.L 1+zg m2.L 2+zg m2.L 3)/\2*(zg m2.L 1+zg m2.L 2+zg m2.L 3)<=2400:=by omega
  clear t4 t5 t6 tl
  generalize be:2*(zg m2.L 1+zg m2.L 2+zg m2.L 3)=M at*
  generalize(V4.alloc (.cells #[I J m2.now,I J (zp m2.L),I J (xv (xa (zp m2.L) c.qu)),I J 1,I J (zg m2.L 1),I J (zg m2.L 2),I J (zg m2.L 3),I J m2.Gl.length] 37))=W4 at*
  obtain⟨bc,bd⟩:=aU
  go_loopw [10,11,12,13,14,15] (fun y _ _ _ _ _ wr=>∃(j:Nat) (m':MS),y=I J j/\(j:Int)+phi m'.L<=M/\YU c 1 m' ns/\zI wr B s2 c 1 m' m'.now ns (vB 1 k2) (qt 1 m2.QL k2)/\m'.num<=(k2:Int)+j/\Below w.1.size w wr) (fun y _ _ _ _ _ _=>M.toNat+1-(intOf y).toNat)
  case atStart=>exact⟨0,m2,rfl,by have:=(ud al).2;simpa using this,ud aj,ud ap,by omega,ud ai⟩
  case round=>
   obtain⟨j,m',rfl,hj,x,hS,bl,aG⟩:=hrel
   have af:=(Zx m'.L x.ok.ok.seg.sts).1
   have bf:(j:Int)<=M:=by omega
   have x0:=(hS.cells).1
   have K:=hS.lt
   rw[u]at x0 K
   have hu:=x.ok.ok.seg.u0 l
   have bn:=l.sl
   have ba:=x.ok.ok.num
   have a4:=zd (XP hS.mill l 0 ⟨by omega,by omega⟩ x.ok.ok.now x.ok.tsk (by rw[x.free];simp) ⟨by omega,by omega⟩ aW (by rw[x.free];intro q hq;cases hq) ⟨hu.1,by omega⟩)
   have z:=zd x
   have HS:=zd hS
   have g:=zd aG
   have bk:=l.le
   obtain⟨bo,bp⟩:=x.ok.ok.now
   clear x hS aG al aj ap ai hu
   go_wp2_with fail
   refine(ud a4).mono ?_
   rintro e V (⟨rfl,C,ac⟩|⟨rfl,C,r⟩|⟨d,b3,aX,rfl,hM,hK⟩)
   ·exact absurd ac (by rw[(ud z).free];simp)
   ·have h0:=(ud z).idle r
    have ab:=C.alloc C.size (.cells #[I J 0,I J 0,I J 0,I J 0,I J 0,I J 0,I J 0,I J 0,I J 0,I J 0,I J 0] 51)
    have hZ:=(ud HS).later ab
    have y0:=(hZ.cells).1
    have yl:=hZ.lt
    rw[u]at y0 yl
    have HJ:=zd (ziY hZ.mill h0)
    have HZ:=zd hZ
    have a3:=zd ((ud g).trans (ab.mono (ud g).size))
    clear C ab hZ x0 K a4 HS g r
    go_wp2_with fail
    refine(ud HJ).mono ?_
    rintro e V6 ⟨rfl,a9⟩
    have HR:=zd (zbx ((ud HZ).later a9) l hf (ud z).ok.ok (ud z).inv (by omega) true (fun _=>zeF l hf (ud z).ok.ok (ud z).inv (ud z).comp h0))
    rw[u]at HR
    have a1:=zd ((ud a3).trans (a9.mono (ud a3).size))
    clear a9 y0 yl HJ a3 HZ
    go_wp2_with fail
    refine(ud HR).mono ?_
    rintro e V7 ⟨rfl,aF⟩
    have aQ:=zd ((ud a1).trans (aF.mono (ud a1).size))
    clear aF a1 HR
    go_wp2_with fail
    go_ret
    exact⟨rfl,ud aQ⟩
   ·have aZ:=fun k hk=>O H ((ud HS).mlo k hk)
    have hA:=(E V.1.size V).alloc (Nat.le_refl _) (.cells #[I J d.2.kd,I J d.2.s.t,I J d.2.s.sr,I J d.2.s.wa,I J d.2.se,I J d.2.ti,I J d.2.rest,I J 1,I J (m'.num+1),I J 0,I J (m'.now+c.le)] 51)
    have f:zI (V.alloc (.cells #[I J d.2.kd,I J d.2.s.t,I J d.2.s.sr,I J d.2.s.wa,I J d.2.se,I J d.2.ti,I J d.2.rest,I J 1,I J (m'.num+1),I J 0,I J (m'.now+c.le)] 51)) B s2 c 1 (qd 1 c m' d) m'.now ns (vB 1 k2) (qt 1 m2.QL k2):=((ud HS).putMill hM hK).later hA
    have jl:=zm V (.cells #[I J d.2.kd,I J d.2.s.t,I J d.2.s.sr,I J d.2.s.wa,I J d.2.se,I J d.2.ti,I J d.2.rest,I J 1,I J (m'.num+1),I J 0,I J (m'.now+c.le)] 51)
    obtain⟨-,-,-,-,-,-,-,j7,j8,-⟩:=zc jl
    have jz:=za jl
    have HC:=zd (Ki (f.later (E _ _).drew).mill l hf (ud z) S b3 (by omega))
    have y0:=(f.cells).1
    have yl:=f.lt
    rw[u]at y0 yl
    have a5:=(ud g).trans (hK.kept.below (ud g).size aZ)
    have a2:=zd (a5.trans (hA.mono a5.size))
    have A:=zd f
    clear hA f jl a5 hM hK a4 x0 K HS g aX z
    go_wp2_with fail
    generalize(V.alloc (.cells #[I J d.2.kd,I J d.2.s.t,I J d.2.s.sr,I J d.2.s.wa,I J d.2.se,I J d.2.ti,I J d.2.rest,I J 1,I J (m'.num+1),I J 0,I J (m'.now+c.le)] 51))=Y at*
    refine xo 6 (by kernel_rfl) (by kernel_rfl) ?_
    simp only[List.take_succ_cons,List.take_zero,List.drop_succ_cons,List.drop_zero]
    repeat still_step
    refine wpStill_nil ?_
    go_wp2_with fail
    refine(ud HC).mono ?_
    rintro e V8 ⟨rfl,m8,aC,aB,aA,bb,b1,b2⟩
    have ad:Kx s2.i Y V8:=((ud A).mill.below (E _ _).drew).trans aB
    have a7:=(ud A).putMill aC ad
    rw[<-b1]at a7
    have aT:=zd a7
    have aS:=zd aA
    have aR:=zd ((ud a2).trans (ad.kept.below (ud a2).size (fun k hk=>O H ((ud A).mlo k hk))))
    clear aC aB aA ad a7 HC A a2 y0 yl j7 j8 jz
    go_wp2_with fail
    go_roundw
    case rel=>exact⟨j+1,m8,by go_num,by omega,ud aS,ud aT,by omega,ud aR⟩
    case measure=>simp[intOf];omega
end Go.Proofs.YtndhpgciopcncaaGreatDoor
namespace Go.Proofs.YtndhpgciopcncaaGreatDoor
open Go.ChangeShapes Go.WideShapes Go.ChangeAt Go.RowKit
theorem zct:ownKnob prog.godebug=none:=by kernel_rfl
theorem Z3:laidOutB prog=true:=by kernel_rfl
theorem Kk(os:Os)(g:os.Started)(H:Type)(enc:TypeId×Value->H):
  ReturnsInHanded {} Tryz.checked os 7 .any (fun w args=>(Rows.drivenSpec.pre enc prog Tryz.f7 [] false w args/\laidMetH prog zgn w)/\sizedMet enc prog Tryz.f7 (OpenSpec.ofChange Rows.drivenSpec) false w args) (Rows.drivenSpec.post enc prog Tryz.f7 false true false false):=by
 refine returnsInHanded_of_change_and (C:=Tryz.checked) (X:=fun w _=>laidMetH prog zgn w) (fun _ _ _ hh h=>h.of_heap hh) zct g (by kernel_rfl) func7
  (ChangeSpec.witness_shaped (enc:=enc) (C:=Tryz.checked) (os:=os) (X:=fun w _=>laidMetH prog zgn w) false (World.laidAll prog os zgn) #[.agg #[I J 0,I J 0,I J 0,I J 0,I J 0,I J 0,.slice none 0 0],.slice none 0 0] 8 (World.laidAll_os _ _ _)
   (World.shaped_of_ZipB (by kernel_rfl) (by kernel_rfl)) (by kernel_rfl) (by kernel_rfl) (by kernel_rfl) (zhn os _)) ?_
 intro W base args ds gs L d hW a3 D u _
 have c:∀(j:Nat) t v,Tryz.f7.params[j]?=some t->args[j]?=some v->Value.okWide prog W .any base t v:=d
 have l:(DataW.weightsEach prog (Tryz.f7.params.toList++Rows.drivenSpec.plain.varTypes prog) (ds++gs)).all (· <=reachBytes)=true:=D
 have N:=hW
 obtain⟨p,q,r,hV,rfl,a8,a9⟩:=hW
 have hA:DataW.TrodAll enc prog W 0 (fun _=>true) true Tryz.f7.params.toList args.toList ds p:=r
 rw[params7]at hA c l
 obtain⟨v0,aa,d0,a4,p0,q0,Q,rfl,rfl,h0,r0⟩:=trodAll_cons hA
 obtain⟨v1,ab,d1,a5,p1,q1,rfl,rfl,rfl,h1,r1⟩:=trodAll_cons r0
 obtain⟨rfl,rfl,rfl⟩:=trodAll_nil r1
 obtain rfl:args=#[v0,v1]:=by cases args;simp_all
 obtain⟨rfl,rfl⟩:=trodVars_none hV
 obtain⟨cs,rfl,a7⟩:=okWide_struct underlying27 (c 0 27 v0 rfl rfl)
 obtain⟨M,f,b,rfl⟩:=okWide_slice underlying28 (c 1 28 v1 rfl rfl)
 have k0:=h0
 have k1:=h1
 have Y:∀x∈p0,x.block<W.1.size:=by obtain⟨m,S⟩:=k0;exact DataW.trod_lt m _ _ _ S
 have Z:∀x∈p1,x.block<W.1.size:=by obtain⟨m,S⟩:=k1;exact DataW.trod_lt m _ _ _ S
 obtain⟨o,hf⟩:=h0
 obtain⟨k,B⟩:=h1
 have A:DataW.trod enc prog W 0 (fun _=>true) true o 27 cs.toList=some (d0,p0):=by simpa[Value.cells]using hf
 have i:DataW.trod enc prog W 0 (fun _=>true) true k 28 [.slice M f b]=some (d1,p1):=by simpa[Value.cells]using B
 obtain⟨s,le,la,wi,ke,qu,a,n,cap,Fr,Wd,K,a6,U,⟨b1,b2,b3,b4,b5,b6⟩,⟨hF,P,hK⟩,F⟩:=KG A
 have z:cs=#[I J s,I J le,I J la,I J wi,I J ke,I J qu,.slice a n cap]:=by cases cs;simp_all
 have hn:n<=140737488355328:=by
  have:=F (fun y V=>by
   have:=List.all_eq_true.1 l y (DataW.weights_mem_each (j:=0) rfl rfl y V)
   simpa using this)
  simp only[reachBytes]at this
  omega
 obtain⟨a2,n2,a0,G,hc2,R,T,hG⟩:=VX i (fun y V=>by
  have:=List.all_eq_true.1 l y (DataW.weights_mem_each (j:=1) rfl rfl y V)
  simpa using this)
 simp at hc2
 obtain⟨rfl,rfl,rfl⟩:=hc2
 clear r d hf A F B i
 refine(show Calls prog 7 #[.agg cs,.slice M f b] W _ from z▸zay s le la wi ke qu a n cap Fr Wd K M f b G W (Jq u) b1 b2 b3 b4 b5 b6 U hn hF P hK R T hG).mono fun e W' ⟨he,bel⟩=>?_
 subst he
 exact⟨_,rfl,_,_,_,[],_,[],N,trodAll_mk1 (shut_bool underlying4 _),(trodAll_cons_mk (Below.trod Z3 (by kernel_rfl) (of_decide_eq_true (by kernel_rfl)) k0 bel Y) (trodAll_cons_mk (Below.trod Z3 (by kernel_rfl) (of_decide_eq_true (by kernel_rfl)) k1 bel Z) trodAll_mk0)),rfl,bel.frame _,fun h=>by cases h⟩
theorem Kl:Rows.DrivenSaid:=
 OpenClaim.holds_of_wide 7 Tryz.f7 rfl rfl rfl rfl rfl rfl rfl ⟨rfl,rfl,rfl,rfl,rfl⟩ rfl rfl rfl rfl rfl (by kernel_rfl) func7 Kj
  (of_decide_eq_true (by kernel_rfl)) (by unfold Func.isWrapper;first|(rw[if_pos (by decide+kernel)];kernel_rfl)|(rw[if_neg (by decide+kernel)];exact⟨rfl,rfl⟩))
  (fun os a H enc _=>Kk os a H enc)
theorem drivenCard_holds:Rows.DrivenCardSaid:=
 Claim7.holds_tied_plain_at .later [] [.data,.data,.data,.sentinel,.sentinel,.listed,.data] true (true, "e4703e471f700b14ef4f5b2136a5b11b72e3551741bf1531b3f191eeb70a92c1") true
  Kl (fun _ h=>by cases h) (by kernel_rfl) (fun _ h=>by cases h) driven_row_tie rfl ⟨rfl,rfl⟩ (by kernel_rfl) rfl
  (fun f fn d b=>by
   obtain rfl:f=7:=Option.some.inj ((show prog.funcNamed "mill/millkeep.Driven" =some 7 by kernel_rfl).symm.trans d)|>.symm
   obtain rfl:fn=Tryz.f7:=(Option.some.inj (func7.symm.trans b)).symm
   exact⟨by kernel_rfl,fun j t c=>by
    rw[params7]at c
    have e:t∈[27,28]:=by simpa using Array.mem_of_getElem? c
    have a:([27,28].all fun u=>!prog.wantsStandIn u)=true:=by kernel_rfl
    exact(show prog.wantsStandIn t=false by simpa using List.all_eq_true.1 a t e)⟩)
  (by kernel_rfl)
#print axioms drivenCard_holds
end Go.Proofs.YtndhpgciopcncaaGreatDoor
