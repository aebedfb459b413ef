import Derived.Test.YtndhpgciopcncaaGreatDoorVRolledFact
import Derived.Deep.RegionHeld3
import Derived.Test.YtndhpgciopcncaaGreatDoorVStp7
open Go.Value renaming int → I
open Go.IntKind renaming i64 → J
open Option renaming none → O
open Nat renaming lt_of_lt_of_le → E
open Go.IntKind renaming i32 → N
open Go.RowKit.Below renaming refl → S
open Option renaming some → D
open Nat renaming le_refl → R
open Go.RowKit renaming Below → M
open Go renaming World → C
open Nat renaming zero_le → z4
set_option linter.unusedVariables false
set_option maxRecDepth 100000
set_option maxHeartbeats 8000000
open Go.Proofs.Tryz
namespace Go.Proofs.YtndhpgciopcncaaGreatDoor
open Go.RowKit Go.Maps Go.Shelf
def Wt(L:LV)(s:Sg):Prop:=∃v,(s,v)∈L/\v.st=2
def Pub(L:LV)(s:Sg):Prop:=∃v,(s,v)∈L/\v.st=3
structure zhg(c:Cf)(now:Int)(L:LV)(ns:List Nm)(rl:Bool)(s:Sg):Prop where
 roll:rl=true->∀k:Nat,s.t=k->∀x∈ns,zG c s.t x=s->¬Wt L (zG c (c.F k) x)
 recl:rl=false->(s.wa+1)*c.wt s.t+c.keep s.t<=now/\∀x∈ns,zG c s.t x=s->∀k:Nat,k<c.n->c.F k=s.t->¬Wt L (zG c k x)
structure jK(c:Cf)(m:MS)(ns:List Nm):Prop where
 tm:∀x∈ns,0<=x.tm/\x.tm<=m.now/\0<=x.sr/\x.sr<4/\ -2147483648<=x.val/\x.val<=2147483647
 keys:∀x∈ns,∀t:Int,-1<=t->t<c.n->zG c t x∈zt m.L\/zG c t x∈zE m.Gl
 has:∀s∈zt m.L,∃x∈ns,zG c s.t x=s
 gone:∀x∈ns,∀k:Nat,k<c.n->zG c (c.F k) x∈zE m.Gl->zG c k x∈zE m.Gl\/Pub m.L (zG c k x)
 over:∀s∈zE m.Gl,(s.wa+1)*c.wt s.t+c.keep s.t<=m.now
 cell:∀p∈m.L,p.2.st≠2->IsC (fun x=>zG c p.1.t x=p.1) ns p.2.cl
 td:∀p∈m.TL,zhg c m.now m.L ns p.2.rl p.2.s
section
variable {c:Cf} {ep:Int} {m:MS} {ns:List Nm}
theorem Jh{L:LV}(hn:(zt L).Nodup){s:Sg}{u v:SV}(h:(s,u)∈L)(k:(s,v)∈L):u=v:=by
 have b:zY L s=D u:=qC hn h
 have a:zY L s=D v:=qC hn k
 rw[b]at a;injection a
theorem ZU{L:LV}{p:Sg×SV}(h:p∈L):p.1∈zt L:=List.mem_map.2 ⟨p,h,rfl⟩
theorem zha{L:LV}(hn:(zt L).Nodup){s:Sg}(h:Wt L s):s∈zt L/\(stL L s).st=2:=by
 obtain⟨v,hv,b⟩:=h
 have a:=ZU hv
 have:=xS a
 rw[Jh hn this hv]
 exact⟨a,b⟩
theorem vZ(c:Cf)(k:Nat):c.wt (k:Int)=c.W k:=by
 unfold Cf.wt zR
 rw[if_neg (by omega)];simp
theorem zjP(e:c.ok)(a:c.fits){x:Nm}(i:0<=x.tm){k:Nat}(b:k<c.n):x.tm/c.wt (c.F k)*c.wt (c.F k)/c.W k=x.tm/c.W k:=by
 obtain⟨q,g,f⟩:=a.quot k b
 have d:=a.down k b
 have h:=(e.wt d.1 (by omega)).1
 rw[f,Int.mul_comm (x.tm/c.wt (c.F k)),Int.mul_ediv_mul_of_pos _ _ (by omega),Int.ediv_ediv_of_nonneg (by omega)]
theorem JW(b:c.ok)(d:c.fits){x:Nm}(e:0<=x.tm){k:Nat}(a:k<c.n):zG c k x∈jp c (zG c (c.F k) x):=by
 unfold jp Ki
 rw[List.map_map]
 refine List.mem_map.2 ⟨k,List.mem_filter.2 ⟨by simpa using a,by simp[zG]⟩,?_⟩
 show(⟨(k:Int),x.sr,x.tm/c.wt (c.F k)*c.wt (c.F k)/c.W k⟩:Sg)=zG c k x
 rw[zjP b d e a]
 unfold zG;rw[vZ]
theorem YJ(d:c.ok)(f:MOk c ep m){x:Nm}(e:m.now-c.la<=x.tm){t:Int}(a: -1<=t)(b:t<c.n):zG c t x∉zE m.Gl:=fun h=>Zs d a b e (f.seg.goc _ h)
theorem V7(e:c.ok)(g:MOk c ep m){x:Nm}(f:m.now-c.la<=x.tm){t:Int}(a: -1<=t)(b:t<c.n):¬Pub m.L (zG c t x):=fun⟨v,hv,d⟩=>Zs e a b f (g.seg.pubc _ hv d)
theorem Vl{now:Int}:∀(a:List Sg) {T:List (Jk×Tsk)} {p:Jk×Tsk},p∈a.foldl (vn now) T->p∈T\/∃s∈a,p.2.rl=true/\p.2.s=s
 |[],T,p,h=> .inl h
 |y::a,T,p,h=>by
  rcases Vl a h with h|⟨s,b,h⟩
  ·unfold vn at h
   split at h
   ·exact .inl h
   ·rcases qI h with rfl|⟨h,_⟩
    ·exact .inr ⟨y,by simp,rfl,rfl⟩
    ·exact .inl h
  ·exact .inr ⟨s,by simp[b],h⟩
theorem Vj{now:Int}:∀(a:List Sg) {T:List (Jk×Tsk)} {p:Jk×Tsk},p∈a.foldl (vQ now) T->p∈T\/∃s∈a,p.2.rl=false/\p.2.s=s
 |[],T,p,h=> .inl h
 |y::a,T,p,h=>by
  rcases Vj a h with h|⟨s,b,h⟩
  ·unfold vQ at h
   split at h
   ·exact .inl h
   ·rcases qI h with rfl|⟨h,_⟩
    ·exact .inr ⟨y,by simp,rfl,rfl⟩
    ·exact .inl h
  ·exact .inr ⟨s,by simp[b],h⟩
theorem jK.post(q:c.ok)(F:c.fits)(a:yq c m.now m.L m.Gl)(h:jK c m ns){i:List (Jk×Tsk)}(b:yd c m i):jK c {m with TL:=i} ns:=by
 obtain⟨K,A,B,W,Q,T,rfl⟩:=b.to
 refine⟨h.tm,h.keys,h.has,h.gone,h.over,h.cell,fun p b=>?_⟩
 rcases Vj B b with b|⟨s,u,j,l⟩
 ·rcases Vl A b with b|⟨s,u,j,l⟩
  ·exact h.td p b
  ·rw[j,l]
   refine⟨fun _ k r x w g v=>?_,fun e=>by cases e⟩
   obtain⟨f,d⟩:=(Q s).1 u
   obtain⟨G,z⟩:=zha a.nl v
   have t:k<c.n:=by
    have:=(a.inr _ (xS f)).2.2.1
    simp only at this
    omega
   have hin:s∈zE K:=(W s).2 ⟨_,G,z,by
    have:=JW q F (h.tm x w).1 t
    rw[<-r,g]at this
    exact this⟩
   unfold jY at d
   simp only[Bool.and_eq_true,Option.isNone_iff_eq_none]at d
   exact qa.1 d.1.1 hin
 ·rw[j,l]
  refine⟨fun e=>(by cases e),fun _=>?_⟩
  obtain⟨f,d⟩:=(T s).1 u
  have hin:=a.inr _ (xS f)
  unfold ju at d
  simp only[Bool.and_eq_true,Bool.not_eq_true',beq_eq_false_iff_ne,ne_eq,decide_eq_true_eq]at d
  obtain⟨⟨r1,Z⟩,H⟩:=d
  refine⟨Z,fun x w g k r o v=>?_⟩
  obtain⟨G,z⟩:=zha a.nl v
  have V:zG c k x∈jp c s:=by
   have:=JW q F (h.tm x w).1 r
   rw[o,g]at this
   exact this
  unfold QM at H
  have U:((kH c s).filter (fun x=>(stL m.L x.1).st==2)).length=0:=by
   have:=of_decide_eq_true (show decide ((((kH c s).filter (fun x=>(stL m.L x.1).st==2)).length:Int)=0)=true from by simpa using H)
   omega
  have X:=(Zg q hin (zG c k x)).2 V
  obtain⟨y,Y,P⟩:=List.mem_map.1 X
  have:y∈(kH c s).filter (fun x=>(stL m.L x.1).st==2):=List.mem_filter.2 ⟨Y,by rw[P];simpa using z⟩
  rw[List.eq_nil_of_length_eq_zero U]at this;simp at this
theorem QI{T:List (Jk×Tsk)}{k:Jk}{x:Tsk}{now:Int}(b:zY T k=D x){p:Jk×Tsk}(a:p∈qr T k (x.failed now)):∃q∈T,q.2.rl=p.2.rl/\q.2.s=p.2.s:=by
 rcases qI a with rfl|⟨a,_⟩
 ·exact⟨_,zT b,rfl,rfl⟩
 ·exact⟨p,a,rfl,rfl⟩
theorem zfo{now:Int}{TL:List (Jk×Tsk)}{QL:List (Tok×Lse)}{b:List (Jk×Tsk)}{Q1:List (Tok×Lse)}(h:VR now TL QL b Q1):∀p∈b,∃q∈TL,q.2.rl=p.2.rl/\q.2.s=p.2.s:=by
 induction h with
 |nil=>exact fun p a=>⟨p,a,rfl,rfl⟩
 |step l m n g k=>
  intro p a
  obtain⟨q,i,c,d⟩:=QI g a
  obtain⟨r,j,e,f⟩:=k q i
  exact⟨r,j,e.trans c,f.trans d⟩
theorem zhg.mono{now a:Int}{L:LV}{rl:Bool}{s:Sg}(h:zhg c now L ns rl s)(hn:now<=a):zhg c a L ns rl s:=
 ⟨h.roll,fun e=>⟨by have:=(h.recl e).1;omega,(h.recl e).2⟩⟩
theorem zhg.live{now:Int}{L g:LV}{rl:Bool}{s:Sg}(h:zhg c now L ns rl s)(i:∀y,Wt g y->Wt L y):zhg c now g ns rl s:=
 ⟨fun e k b x f d a=>h.roll e k b x f d (i _ a),fun e=>⟨(h.recl e).1,fun x f d k b j a=>(h.recl e).2 x f d k b j (i _ a)⟩⟩
theorem jK.ticked(h:jK c m ns){a:Int}(hn:m.now<=a){b:List (Jk×Tsk)}{Q1:List (Tok×Lse)}(j:∀p∈b,∃q∈m.TL,q.2.rl=p.2.rl/\q.2.s=p.2.s)(num:Int):jK c {m with now:=a,num:=num,TL:=b,QL:=Q1} ns:=
 ⟨fun x k=>by have:=h.tm x k;exact⟨this.1,by show x.tm<=a;omega,this.2.2⟩,h.keys,h.has,h.gone,fun s i=>by have:=h.over s i;show _<=a;omega,h.cell,fun p f=>by
  obtain⟨q,g,d,e⟩:=j p f
  have:=(h.td q g).mono hn
  rw[d,e]at this;exact this⟩
end
section
variable {c:Cf} {ep:Int} {m:MS} {ns:List Nm}
theorem zfZ{L:LV}{s:Sg}{v:SV}:(s,v)∈ya L s v:=by
 unfold ya
 by_cases h:s∈zt L
 ·rw[if_pos h]
  obtain⟨p,a,e⟩:=List.mem_map.1 (show s∈L.map (·.1)from h)
  exact List.mem_map.2 ⟨p,a,by rw[if_pos e]⟩
 ·rw[if_neg h];simp
theorem zaf{L:LV}{s:Sg}{v:SV}{p:Sg×SV}(b:p∈L)(a:p.1≠s):p∈ya L s v:=by
 unfold ya
 by_cases h:s∈zt L
 ·rw[if_pos h]
  exact List.mem_map.2 ⟨p,b,by rw[if_neg a]⟩
 ·rw[if_neg h];simp[b]
theorem Yi{L:LV}{x:Nm}{p:Sg×SV}(a:p∈kN c L x):p=(xk c x,⟨1,qp x.val ((yA L (xk c x)).map (·.cl))⟩)\/(p∈L/\p.1≠xk c x)\/∃j:Nat,j<c.n/\p=(zG c (j:Int) x,⟨2,qc⟩)/\zG c (j:Int) x∉zt L:=by
 rcases vH x c.n _ a with a|⟨j,b,e,hn⟩
 ·rcases qh a with a|a
  ·exact .inl a
  ·exact .inr (.inl a)
 ·exact .inr (.inr ⟨j,b,e,fun d=>hn (xF.2 (.inl d))⟩)
theorem zeT{L:LV}{x:Nm}{p:Sg×SV}(b:p∈L)(a:p.1≠xk c x):p∈kN c L x:=kQ x c.n _ (zaf b a)
theorem zcc{L:LV}{x:Nm}{s:Sg}(h:s∈zt L):s∈zt (kN c L x):=by
 have a:s∈zt (qs c L x):=by unfold qs;exact xF.2 (.inl h)
 obtain⟨p,b,e⟩:=List.mem_map.1 (show s∈(qs c L x).map (·.1)from a)
 subst e
 exact ZU (kQ x c.n _ b)
theorem zhh{L:LV}{x:Nm}{y:Sg}(h:Wt (kN c L x) y):Wt L y\/∃j:Nat,j<c.n/\y=zG c (j:Int) x/\y∉zt L:=by
 obtain⟨v,hv,d⟩:=h
 rcases Yi hv with e|⟨hv,_⟩|⟨j,f,e,hn⟩
 ·injection e with a b;subst b;simp at d
 ·exact .inl ⟨v,hv,d⟩
 ·injection e with a b;exact .inr ⟨j,f,a,by rw[a];exact hn⟩
theorem J9{L:LV}{x:Nm}(f:yq c m.now m.L m.Gl)(j:c.ok)(hv: -2147483648<=x.val/\x.val<=2147483647){P:Nm->Prop}[DecidablePred P](g:P x)
  (h:∀o,yA m.L (xk c x)=D o->IsC P ns o.cl) (i:yA m.L (xk c x)=O->∀y∈ns,¬P y):IsC P (ns++[x]) (qp x.val ((yA m.L (xk c x)).map (·.cl))):=by
 cases b:yA m.L (xk c x)with
 |none=>
  have:=(IsC.zero (i b)).add g
  have e:QF qc x.val=qp x.val O:=by
   simp only[QF,qc,qp,Int.zero_add,true_or,if_true]
   rw[show wrap64 x.val=x.val by unfold wrap64;omega]
  rw[e]at this
  exact this
 |some o=>
  obtain⟨a,k,l,n,p⟩:=MOk.rawAt f j b
  have:=(h o b).add g
  have e:QF o.cl x.val=qp x.val (D o.cl):=by
   have d:¬o.cl.cnt=0:=by omega
   simp only[QF,qp,d,false_or]
   rw[show wrap64 (o.cl.sum+x.val)=x.val+o.cl.sum by unfold wrap64;omega,Int.add_comm o.cl.cnt]
   congr 1
   ·by_cases a:o.cl.mn<x.val
    ·rw[if_pos a,if_neg (by omega)]
    ·rw[if_neg a];split<;>omega
   ·by_cases a:x.val<o.cl.mx
    ·rw[if_pos a,if_neg (by omega)]
    ·rw[if_neg a];split<;>omega
  rw[e]at this
  exact this
theorem jK.added(B:c.ok)(hf:c.fits)(l:MOk c ep m)(h:jK c m ns){x:Nm}(hs:0<=x.sr/\x.sr<4)(hx:0<=x.tm/\x.tm<=m.now)(X:m.now-c.la<=x.tm)(hv: -2147483648<=x.val/\x.val<=2147483647):
  jK c {m with L:=kN c m.L x} (ns++[x]):=by
 have d:∀{y:Nm},y∈ns++[x]->y∈ns\/y=x:=fun a=>by
  rcases List.mem_append.1 a with a|a
  ·exact .inl a
  ·exact .inr (List.mem_singleton.1 a)
 have w:∀t:Int,-1<=t->t<c.n->zG c t x∉zE m.Gl:=fun t q u=>YJ B l X q u
 have a0:=B.n1
 have G:∀y,Pub m.L y->Pub (kN c m.L x) y:=fun y ⟨v,H,P⟩=>⟨v,zeT H (fun e=>by
  have h4:=(l.seg.raw _ H (by rw[show y=xk c x from e];rfl)).1
  simp only at h4;omega),P⟩
 --no waiting segment of an elder number is new
 have K:∀y∈ns,∀t:Int,-1<=t->t<c.n->Wt (kN c m.L x) (zG c t y)->Wt m.L (zG c t y):=fun y a t q u A=>by
  rcases zhh A with A|⟨j,hj,e,hn⟩
  ·exact A
  ·exfalso
   rcases h.keys y a t q u with b|b
   ·exact hn b
   ·rw[e]at b;exact w j (by omega) (by omega) b
 have g:∀s:Sg,s∈zt m.L->c.clo m.now s->zG c s.t x≠s:=fun s b V e=>by
  have hin:=l.seg.inr _ (xS b)
  exact Zs B hin.2.1 hin.2.2.1 X (by rw[e];exact V)
 refine⟨fun y a=>?_,fun y a t q u=>?_,fun s Z=>?_,fun y a k b hg=>?_,h.over,fun p f z=>?_,fun p f=>?_⟩
 ·rcases d a with a|rfl
  ·exact h.tm y a
  ·exact⟨hx.1,hx.2,hs.1,hs.2,hv⟩
 ·rcases d a with a|rfl
  ·exact(h.keys y a t q u).imp zcc id
  ·left
   by_cases ht:t= -1
   ·subst ht
    have q:xk c y∈zt (qs c m.L y):=by unfold qs;exact xF.2 (.inr rfl)
    obtain⟨p,f,e⟩:=List.mem_map.1 (show xk c y∈(qs c m.L y).map (·.1)from q)
    show xk c y∈_
    rw[<-e]
    exact ZU (kQ y c.n _ f)
   ·have:=Zb (c:=c) y c.n (qs c m.L y) t.toNat (by omega)
    rw[show((t.toNat:Nat):Int)=t by omega]at this
    exact this
 ·obtain⟨p,f,rfl⟩:=List.mem_map.1 (show s∈(kN c m.L x).map (·.1)from Z)
  rcases Yi f with rfl|⟨f,_⟩|⟨j,hj,rfl,_⟩
  ·exact⟨x,by simp,rfl⟩
  ·obtain⟨y,a,e⟩:=h.has _ (ZU f)
   exact⟨y,by simp[a],e⟩
  ·exact⟨x,by simp,rfl⟩
 ·have Q:=hf.down k b
  rcases d a with a|rfl
  ·exact(h.gone y a k b hg).imp id (G _)
  ·exact absurd hg (w _ Q.1 (by omega))
 ·rcases Yi f with rfl|⟨f,Y⟩|⟨j,hj,rfl,_⟩
  ·refine J9 (L:=m.L) l.seg B hv rfl (fun o r=>?_) (fun r y a e=>?_)
   ·have F:=kz r
    have q:=(l.seg.raw _ F rfl).1
    exact h.cell _ F (by simp only at q ⊢;omega)
   ·have e':zG c (-1) y=xk c x:=e
    rcases h.keys y a (-1) (by omega) (by omega)with b|b
    ·exact kh.1 r (e'▸b)
    ·exact w (-1) (by omega) (by omega) (show xk c x∈_ from e'▸b)
  ·refine(h.cell p f z).skip (fun e=>?_)
   have hin:=l.seg.inr p f
   by_cases ht:p.1.t= -1
   ·exact Y (by rw[<-e,ht];rfl)
   ·rcases l.seg.tier p f (by have:=hin.2.1;omega)with u|P
    ·exact z u
    ·exact V7 B l X hin.2.1 hin.2.2.1 ⟨p.2,by rw[e];exact f,P⟩
  ·exact absurd rfl z
 ·have r:=l.td p f
  have hin:=l.seg.inr _ (xS r.mem)
  have U:=h.td p f
  refine⟨fun e k b y a i A=>?_,fun e=>⟨(U.recl e).1,fun y a i k b Q A=>?_⟩⟩
  ·have W:k<c.n:=by have:=hin.2.2.1;simp only at this;omega
   have T:=hf.down k W
   rcases d a with a|rfl
   ·exact U.roll e k b y a i (K y a _ T.1 (by omega) A)
   ·exact g _ r.mem r.clo i
  ·rcases d a with a|rfl
   ·exact(U.recl e).2 y a i k b Q (K y a _ (by omega) (by omega) A)
   ·exact g _ r.mem r.clo i
theorem zja{q y v:Int}(e:1<=q):y/q=v↔v*q<=y/\y<v*q+q:=by
 constructor
 ·intro h
  subst h
  have a:=Int.emod_add_mul_ediv y q
  have b:=Int.emod_nonneg y (show q≠0 by omega)
  have c:=Int.emod_lt_of_pos y (show 0<q by omega)
  rw[Int.mul_comm]at a
  omega
 ·rintro⟨a,b⟩
  have c:v<=y/q:=(Int.le_ediv_iff_mul_le (by omega)).2 a
  have d:y/q<v+1:=(Int.ediv_lt_iff_lt_mul (by omega)).2 (by rw[Int.add_mul,Int.one_mul];exact b)
  omega
theorem jK.rolled(hc:c.ok)(hf:c.fits)(X:MOk c ep m)(h:jK c m ns)(Q:(ns.length:Int)<9223372036854775808){j:Jk}{s:Sg}{se ti rest:Int}{k:Nat}(hx:zY m.TL j=D ⟨true,s,se,ti,rest⟩)(P:s.t=k)(Q1:List (Tok×Lse)):
  jK c {m with L:=ya m.L s ⟨3,xz (xp c m.L s.sr s.wa k)⟩,TL:=xq m.TL j,QL:=Q1} ns:=by
 have ho:=X.td _ (zT hx)
 have hR:=(h.td _ (zT hx)).roll rfl
 have g:s∈zt m.L:=ho.mem
 have hin:=X.seg.inr _ (xS g)
 have a2:(stL m.L s).st=2:=ho.roll rfl
 have A:k<c.n:=by have:=hin.2.2.1;simp only at this;omega
 have hF:=hf.down k A
 have a5:=(hc.wt hF.1 (show c.F k<c.n by omega)).1
 obtain⟨q,a1,hq⟩:=hf.quot k A
 have B:xM c k=q:=by
  unfold xM
  rw[vZ,hq,Int.mul_ediv_cancel_left _ (by omega)]
 have o:∀x∈ns,(x.sr=s.sr/\s.wa*q<=x.tm/c.wt (c.F k)/\x.tm/c.wt (c.F k)<s.wa*q+q)↔zG c s.t x=s:=fun x b=>by
  have h0:=(h.tm x b).1
  rw[<-zja a1,Int.ediv_ediv_of_nonneg (by omega),<-hq,P]
  obtain⟨st,ss,sw⟩:=s
  simp only at P ⊢
  unfold zG
  rw[vZ]
  subst P
  simp only[Sg.mk.injEq,true_and]
 have l:¬Pub m.L s:=fun⟨v,hv,h3⟩=>by rw[Jh X.seg.nl (xS g) hv]at a2;omega
 have u:IsC (fun x=>zG c s.t x=s) ns (xz (xp c m.L s.sr s.wa k)):=by
  unfold xp
  rw[B]
  have r:((q.toNat:Nat):Int)=q:=by omega
  have:=(VA (L:=m.L) (wd:=c.wt (c.F k)) (f:=c.F k) (sr:=s.sr) (a:=s.wa*q) Q q.toNat (fun i hi=>?_)).1
  ·rw[r]at this
   exact this.congr o
  ·have a4:(i:Int)<q:=by omega
   have d:∀x:Nm,(x.sr=s.sr/\x.tm/c.wt (c.F k)=s.wa*q+i)↔zG c (c.F k) x=⟨c.F k,s.sr,s.wa*q+i⟩:=fun x=>by
    unfold zG;simp only[Sg.mk.injEq,true_and]
   have W:∀x∈ns,(x.sr=s.sr/\x.tm/c.wt (c.F k)=s.wa*q+i)->zG c s.t x=s:=fun x b e=>(o x b).1 ⟨e.1,by omega,by omega⟩
   refine⟨fun v hv=>?_,fun hn x b e=>?_⟩
   ·have G:=kz hv
    obtain⟨y,H,e⟩:=h.has _ (ZU G)
    have Y:=(d y).2 e
    have a0:v.st≠2:=fun K=>hR k P y H (W y H Y) ⟨v,by rw[(d y).1 Y];exact G,K⟩
    have hC:=h.cell _ G a0
    refine⟨hC.congr (fun x _=>(d x).symm),fun h0=>yr.1 h0 y H Y⟩
   ·have e1:=(d x).1 e
    rcases h.keys x b (c.F k) hF.1 (by omega)with z|z
    ·exact kh.1 hn (e1▸z)
    ·have hs:=W x b e
     have V:zG c (k:Int) x=s:=by rw[<-P];exact hs
     rcases h.gone x b k A z with w|w
     ·rw[V]at w;exact X.seg.disj _ (xS g) w
     ·rw[V]at w;exact l w
 have a3:∀y,Wt (ya m.L s ⟨3,xz (xp c m.L s.sr s.wa k)⟩) y->Wt m.L y:=fun y ⟨v,hv,K⟩=>by
  rcases qh hv with e|⟨hv,_⟩
  ·injection e with e1 e2;subst e2;simp at K
  ·exact⟨v,hv,K⟩
 refine⟨h.tm,fun x b t h1 K=>(h.keys x b t h1 K).imp (fun z=>xF.2 (.inl z)) id,fun y H=>?_,fun x b k' Z w=>?_,h.over,fun p T U=>?_,fun p T=>((h.td p (xr.1 T).1).live a3)⟩
 ·rcases xF.1 H with H|rfl
  ·exact h.has y H
  ·exact h.has _ g
 ·rcases h.gone x b k' Z w with z|⟨v,hv,h3⟩
  ·exact .inl z
  ·right
   by_cases e:zG c (k':Int) x=s
   ·rw[e];exact⟨_,zfZ,rfl⟩
   ·exact⟨v,zaf hv e,h3⟩
 ·rcases qh T with rfl|⟨T,_⟩
  ·exact u
  ·exact h.cell p T U
theorem jK.reclaimed(T:c.ok)(U:c.fits)(G:MOk c ep m)(h:jK c m ns){j:Jk}{s:Sg}{se ti rest:Int}(K:zY m.TL j=D ⟨false,s,se,ti,rest⟩)(Q1:List (Tok×Lse)):
  jK c {m with L:=xq m.L s,Gl:=qr m.Gl s (),TL:=xq m.TL j,QL:=Q1} ns:=by
 have Q:=G.td _ (zT K)
 have A:=(h.td _ (zT K)).recl rfl
 have H:s∈zt m.L:=Q.mem
 have n:∀y,y∈zt m.L->y≠s->y∈zt (xq m.L s):=fun y f u=>by
  obtain⟨p,d,rfl⟩:=List.mem_map.1 (show y∈m.L.map (·.1)from f)
  exact ZU (xr.2 ⟨d,u⟩)
 have z:∀y,Wt (xq m.L s) y->Wt m.L y:=fun y ⟨v,hv,i⟩=>⟨v,(xr.1 hv).1,i⟩
 refine⟨h.tm,fun x b t P i=>?_,fun y f=>?_,fun x b k B g=>?_,fun y f=>?_,fun p d q=>h.cell p (xr.1 d).1 q,fun p d=>((h.td p (xr.1 d).1).live z)⟩
 ·by_cases e:zG c t x=s
  ·exact .inr (xG.2 (.inr e))
  ·exact(h.keys x b t P i).imp (fun a=>n _ a e) (fun a=>xG.2 (.inl a))
 ·obtain⟨p,d,rfl⟩:=List.mem_map.1 (show y∈(xq m.L s).map (·.1)from f)
  exact h.has _ (ZU (xr.1 d).1)
 ·by_cases e:zG c (k:Int) x=s
  ·exact .inl (xG.2 (.inr e))
  ·have o:Pub m.L (zG c (k:Int) x)->Pub (xq m.L s) (zG c (k:Int) x):=fun⟨v,hv,r⟩=>⟨v,xr.2 ⟨hv,e⟩,r⟩
   rcases xG.1 g with g|g
   ·exact(h.gone x b k B g).imp (fun a=>xG.2 (.inl a)) o
   ·have l:c.F k=s.t:=by rw[<-g];rfl
    have w:=A.2 x b (by rw[<-l];exact g) k B l
    rcases h.keys x b k (by omega) (by omega)with a|a
    ·right
     refine o ⟨_,xS a,?_⟩
     rcases G.seg.tier _ (xS a) (by show(0:Int)<=k;omega)with i|r
     ·exact absurd ⟨_,xS a,i⟩ w
     ·exact r
    ·exact .inl (xG.2 (.inl a))
 ·rcases xG.1 f with f|rfl
  ·exact h.over y f
  ·exact A.1
theorem jK.act(e:c.ok)(f:c.fits){m':MS}{r:List Nm}(j:SOk c ep m ns.length)(h:jK c m ns)(o:(ns.length:Int)<9223372036854775808)(F:yn c ep m ns m' r):jK c m' r:=by
 cases F with
 |same=>exact h
 |added x d z A B P=>exact h.added e f j.ok d z A B
 |ticked n w l v hn q y K a=>
  have d:jK c {m with now:=m.now+n,TL:=w,QL:=v} ns:=h.ticked (by omega) (zfo y) m.num
  have b:yq c (m.now+n) m.L m.Gl:=(j.tick e f hn q y K a).1.ok.seg
  exact d.post e f b a
 |taken p slot a G=>exact h.ticked (Int.le_refl _) (fun p a=>⟨p,a,rfl,rfl⟩) _
 |failed t g x u i=>exact h.ticked (Int.le_refl _) (fun p a=>QI i a) m.num
 |rolled t g s se ti rest k l u i H a=>
  have d:=h.rolled e f j.ok o i H (xq m.QL t)
  have b:=(j.ok.rolled u i rfl (xz (xp c m.L s.sr s.wa k))).1.seg
  exact d.post e f b a
 |reclaimed t g s se ti rest l u i a=>
  have d:=h.reclaimed e f j.ok i (xq m.QL t)
  have b:=(j.ok.reclaimed u i rfl).1.seg
  exact d.post e f b a
theorem jK.start(c:Cf)(now:Int):jK c ⟨now,[],[],0,[],[]⟩ []:=
 ⟨fun x a=>(by cases a),fun x a=>(by cases a),fun s d=>(by cases d),fun x a=>(by cases a),fun s d=>(by cases d),fun p b=>(by cases b),fun p b=>(by cases b)⟩
inductive Told (c:Cf) (m:MS) (ns:List Nm) (x:Nm) (t:Int) (q:Cl×Int):Prop
 |opn (h1:¬c.clo m.now (zG c t x)) (h2:q=(qc,9))
 |ok (h1:c.clo m.now (zG c t x)) (h2:q.2=0) (h3:IsC (fun y=>zG c t y=zG c t x) ns q.1)
 |wait (h1:c.clo m.now (zG c t x)) (h2:q=(qc,11)) (h3:0<=t)
 |gone (h1:c.clo m.now (zG c t x)) (h2:q=(qc,12)) (h3:((zG c t x).wa+1)*c.wt t+c.keep t<=m.now) (h4:∀k:Nat,k<c.n->c.F k=t->(xK c m.now m.Gl m.L k x.sr (x.tm/c.wt k)).2=0\/(xK c m.now m.Gl m.L k x.sr (x.tm/c.wt k)).2=12)
theorem zao{Gl:List (Sg×Unit)}{L:LV}{s:Sg}(h:s∈zE Gl):(stG Gl L s).st=4:=by
 unfold stG
 cases a:zY Gl s with
 |none=>exact absurd h (qa.1 a)
 |some u=>rfl
theorem zap{Gl:List (Sg×Unit)}{L:LV}{s:Sg}(h:s∉zE Gl):stG Gl L s=stL L s:=by
 unfold stG
 rw[qa.2 h]
theorem jK.told(G:c.ok)(H:c.fits)(i:MOk c ep m)(h:jK c m ns){x:Nm}(w:x∈ns){t:Int}(y: -1<=t)(z:t<c.n):Told c m ns x t (xK c m.now m.Gl m.L t x.sr (x.tm/c.wt t)):=by
 by_cases d:c.clo m.now (zG c t x)
 ·have a:=d
  unfold Cf.clo at d
  have g:xK c m.now m.Gl m.L t x.sr (x.tm/c.wt t)=qT (stG m.Gl m.L (zG c t x)):=by
   unfold xK
   rw[if_neg (by simp only[zG]at d;omega)]
   rfl
  by_cases l:zG c t x∈zE m.Gl
  ·have A:=zao (L:=m.L) l
   refine .gone a (by rw[g];unfold qT;rw[A];simp) (h.over _ l) (fun k q B=>?_)
   have o:=h.gone x w k q (by rw[B];exact l)
   have j:c.clo m.now (zG c (k:Int) x):=by
    rcases o with u|⟨v,hv,p⟩
    ·exact i.seg.goc _ u
    ·exact i.seg.pubc _ hv p
   have s:xK c m.now m.Gl m.L k x.sr (x.tm/c.wt k)=qT (stG m.Gl m.L (zG c k x)):=by
    unfold xK
    unfold Cf.clo at j
    rw[if_neg (by simp only[zG]at j;omega)]
    rfl
   rw[s]
   rcases o with u|⟨v,hv,p⟩
   ·right;unfold qT;rw[zao u];simp
   ·left
    have r:zG c (k:Int) x∉zE m.Gl:=i.seg.disj _ hv
    have:=xS (ZU hv)
    rw[zap r,Jh i.seg.nl this hv]
    unfold qT;rw[p];simp
  ·have q:zG c t x∈zt m.L:=(h.keys x w t y z).resolve_right l
   have b:=xS q
   rw[zap l]at g
   by_cases F:t= -1
   ·have f:=(i.seg.raw _ b (by rw[F];rfl)).1
    simp only at f
    have e:qT (stL m.L (zG c t x))=((stL m.L (zG c t x)).cl,0):=by unfold qT;rw[f];simp
    refine .ok a (by rw[g,e]) ?_
    rw[g,e]
    exact h.cell _ b (by simp only;omega)
   ·rcases i.seg.tier _ b (by show 0<=t;omega)with f|f
    ·simp only at f
     exact .wait a (by rw[g];unfold qT;rw[f];simp) (by omega)
    ·simp only at f
     have e:qT (stL m.L (zG c t x))=((stL m.L (zG c t x)).cl,0):=by unfold qT;rw[f];simp
     refine .ok a (by rw[g,e]) ?_
     rw[g,e]
     exact h.cell _ b (by simp only;omega)
 ·refine .opn d ?_
  unfold Cf.clo at d
  unfold xK
  rw[if_pos (by simp only[zG]at d;omega)]
end
theorem yM{P:Program}{id:Nat}{Q:Exit->Act->C->Prop}{a:Act}{w:C}{l:List Oper}(d:P.follows .mixedOrders=true)(c:Region.lexB .any l.toArray=true)(h:wpStill P l.toArray w.drew (fun b=>Q .normal b w.drew) l a):(Code.region id l.toArray true).wp P Q a w:=wp_region_still_lit d c h
theorem Jz{P:Program}{ops:Array Oper}{w:C}{Q:Act->Prop}{o:Oper}{rest:List Oper}{a:Act}(h:Region.wanted o (yielded ops a.tmps)=false)(b:wpStill P ops w Q rest (a.put o.dst undef)):wpStill P ops w Q (o::rest) a:=by
 unfold wpStill
 rw[h]
 exact b
section
variable {w:C} {B:Nat} {s:Shp} {c:Cf} {ep:Int} {m:MS} {sn:Int} {ns:List Nm} {ks:List Tok} {us:List Int}
theorem zM.more(h:zM w B s c ep m sn ns ks us):w.cell? ⟨s.p,5,O⟩=D (I J c.wi)/\w.cell? ⟨s.p,6,O⟩=D (I J c.ke):=by
 constructor<;>rw[xD h.head]<;>rfl
theorem zM.tiers(h:zM w B s c ep m sn ns ks us)(k:c.ok):∃b d cap,s.ct=.slice (D ⟨b,d,O⟩) c.n cap/\b<w.1.size/\∀i,i<c.n->w.cell? ⟨b,d+i*3,O⟩=D (I J (c.F i))/\w.cell? ⟨b,d+i*3+1,O⟩=D (I J (c.W i))/\w.cell? ⟨b,d+i*3+2,O⟩=D (I J (c.K i)):=by
 obtain⟨a,cap,e⟩:=zL h.crow
 have j:=h.crow
 rw[e]at j
 obtain⟨b,d,rfl,f,g⟩:=TS.of_owns j (by have:=k.n1;omega)
 exact⟨b,d,cap,e,f,g⟩
theorem Yc(h:zM w B s c ep m sn ns ks us)(f:c.ok)(t:Int)(r: -1<=t)(u:t<c.n):
  Calls prog 58 #[.pointer (D ⟨s.p,0,O⟩),I J t] w fun e w'=>e=.returned (I J (c.wt t))/\w'=w:=by
 have v:=h.lt
 obtain⟨x,y⟩:=h.more
 have l:=f.n4
 by_cases g:t= -1
 ·subst g
  have e:c.wt (-1)=c.wi:=by unfold Cf.wt zR;rw[if_pos rfl]
  rw[e]
  clear h f e
  go_enter func58,ntmps58
  go_wp2_with fail
  go_ret
  exact⟨rfl,rfl⟩
 ·obtain⟨k,rfl⟩:∃k:Nat,t=k:=⟨t.toNat,by omega⟩
  rw[vZ]
  obtain⟨b,o,cap,d,j,a⟩:=h.tiers f
  obtain⟨-,-,-,-,-,i,-⟩:=h.cells
  rw[d]at i
  obtain⟨-,q,-⟩:=a k (by omega)
  clear h f d a g
  go_enter func58,ntmps58
  go_wp2_with fail
  go_ret
  exact⟨rfl,rfl⟩
theorem zec(h:zM w B s c ep m sn ns ks us)(f:c.ok)(t:Int)(r: -1<=t)(u:t<c.n):
  Calls prog 84 #[.pointer (D ⟨s.p,0,O⟩),I J t] w fun e w'=>e=.returned (I J (c.keep t))/\w'=w:=by
 have v:=h.lt
 obtain⟨x,y⟩:=h.more
 have l:=f.n4
 by_cases g:t= -1
 ·subst g
  have e:c.keep (-1)=c.ke:=by unfold Cf.keep;rw[if_pos rfl]
  rw[e]
  clear h f e
  go_enter func84,ntmps84
  go_wp2_with fail
  go_ret
  exact⟨rfl,rfl⟩
 ·obtain⟨k,rfl⟩:∃k:Nat,t=k:=⟨t.toNat,by omega⟩
  have e:c.keep (k:Int)=c.K k:=by unfold Cf.keep;rw[if_neg g];simp
  rw[e]
  obtain⟨b,o,cap,d,j,a⟩:=h.tiers f
  obtain⟨-,-,-,-,-,i,-⟩:=h.cells
  rw[d]at i
  obtain⟨-,-,q⟩:=a k (by omega)
  clear h f d a g e
  go_enter func84,ntmps84
  go_wp2_with fail
  go_ret
  exact⟨rfl,rfl⟩
end
theorem vp{V:C}{g k j:Nat}{a b c d:Value}(h:¬k=g):((((V.setCell ⟨g,0,O⟩ a).setCell ⟨g,1,O⟩ b).setCell ⟨g,2,O⟩ c).setCell ⟨g,3,O⟩ d).cell? ⟨k,j,O⟩=V.cell? ⟨k,j,O⟩:=(zq h).trans ((zq h).trans ((zq h).trans (zq h)))
theorem zcr{B:Nat}{w V:C}{g:Nat}(h:M B w V)(e:B<=g)(a b c d:Value):M B w ((((V.setCell ⟨g,0,O⟩ a).setCell ⟨g,1,O⟩ b).setCell ⟨g,2,O⟩ c).setCell ⟨g,3,O⟩ d):=(((h.setCell (p:=⟨g,0,O⟩) e a).setCell (p:=⟨g,1,O⟩) e b).setCell (p:=⟨g,2,O⟩) e c).setCell (p:=⟨g,3,O⟩) e d
def YO(c:Cf)(m:MS)(x:Nm)(k:Nat):Int:=(xK c m.now m.Gl m.L k x.sr (x.tm/c.W k)).2
def wHit(c:Cf)(m:MS)(t:Int)(x:Nm)(k:Nat):Prop:=c.F k=t/\YO c m x k≠0/\YO c m x k≠12
def Yg(c:Cf)(m:MS)(t:Int)(x:Nm):Prop:=∃k,k<c.n/\wHit c m t x k
theorem Yb{w:C}{B:Nat}{s:Shp}{c:Cf}{ep:Int}{m:MS}{sn:Int}{ns:List Nm}{ks:List Tok}{us:List Int}(h:zM w B s c ep m sn ns ks us)(hc:c.ok)(Z:0<=m.now/\m.now<=100000)(t:Int)(ht: -1<=t/\t<c.n)(x:Nm)(hx:0<=x.tm/\x.tm<=100000)(a0:0<=x.sr/\x.sr<4):
  Calls prog 86 #[.pointer (D ⟨s.p,0,O⟩),I J t,.agg #[I J x.sr,I J x.tm,I N x.val]] w fun e w'=>(∃b:Bool,e=.returned (.bool b)/\(b=true↔Yg c m t x))/\M w.1.size w w':=by
 have A:M w.1.size w (w.alloc (.cells #[I J x.sr,I J x.tm,I N x.val] 87)):=(S _ _).alloc (R _) _
 have q0:=zk w (.cells #[I J x.sr,I J x.tm,I N x.val] 87)
 have H:=zd (h.later A)
 have r:=zd A
 have Q0:=zd q0
 have aA:=hc.n4
 have ao:=za q0
 obtain⟨b,l,cap,an,a7,am⟩:=(h.later A).tiers hc
 clear h A q0
 go_enter func86,ntmps86
 go_wp2_with fail
 generalize(w.alloc (.cells #[I J x.sr,I J x.tm,I N x.val] 87))=X at*
 go_loopw [7,8,9] (fun y _ _ wr=>∃k:Nat,k<=c.n/\y=I J k/\(∀j,j<k->¬wHit c m t x j)/\M X.1.size X wr) (fun y _ _ _=>c.n-(intOf y).toNat)
 case atStart=>exact⟨0,z4 _,rfl,fun j hj=>absurd hj (Nat.not_lt_zero _),S _ _⟩
 case round=>
  obtain⟨k,hk,rfl,a9,T⟩:=hrel
  have hS:=(ud H).later T
  obtain⟨c0,-,-,-,-,c8,-⟩:=hS.cells
  rw[an]at c8
  have hl:=hS.lt
  have K:=(T.block _ ao).trans (ud Q0)
  obtain⟨n0,n1,-⟩:=zc K
  have f:=za K
  have aB:(c.n:Int)<=4:=by omega
  have HS:=zd hS
  have HB:=zd T
  have v:=zd a9
  by_cases a8:k<c.n
  ·have U:(k:Int)<c.n:=by omega
   obtain⟨ae,af,-⟩:=am k a8
   have g0:=(T.cell (p:=⟨b,l+k*3,O⟩) a7).trans ae
   have g1:=(T.cell (p:=⟨b,l+k*3+1,O⟩) a7).trans af
   have G:=E a7 T.size
   have aw:=hc.W k a8
   clear ae af hS T K a9
   by_cases d:c.F k=t
   ·have al:(c.F k==t)=true:=by simpa using d
    have a3:=zd d
    clear d
    go_wp2_with fail
    have ai:0<=x.tm/c.W k/\x.tm/c.W k<=100000:=⟨Int.ediv_nonneg hx.1 (by omega),by have:=Int.ediv_le_self (c.W k) hx.1;omega⟩
    have av:¬c.W k=0:=by omega
    have ar:IntKind.i64.wrap (x.tm.tdiv (c.W k))=x.tm/c.W k:=by rw[Int.tdiv_eq_ediv_of_nonneg hx.1,IntKind.wrap_i64];omega
    have a6:M wr.1.size wr (wr.alloc (.cells #[I J 0,I J 0,I N 0,I N 0] 115)).drew:=((S _ _).alloc (R _) _).drew
    have ap:wr.1.size<(wr.alloc (.cells #[I J 0,I J 0,I N 0,I N 0] 115)).drew.1.size:=by show wr.1.size<(wr.alloc (.cells #[I J 0,I J 0,I N 0,I N 0] 115)).1.size;rw[zI];omega
    have ah:(wr.alloc (.cells #[I J 0,I J 0,I N 0,I N 0] 115)).drew.1[wr.1.size]?=D (.cells #[I J 0,I J 0,I N 0,I N 0] 115 (0,0)):=zk wr _
    have a5:=zd (yS ((ud HS).later a6).mill hc Z k x.sr (x.tm/c.W k) ⟨by omega,U⟩ a0 ai)
    have a4:=zd (yS ((ud HS).later (S _ _).drew).mill hc Z k x.sr (x.tm/c.W k) ⟨by omega,U⟩ a0 ai)
    have ab:(xK c m.now m.Gl m.L k x.sr (x.tm/c.W k)).2=YO c m x k:=rfl
    rw[ab]at a5 a4
    have ak:=zd ab
    clear ab
    generalize(xK c m.now m.Gl m.L k x.sr (x.tm/c.W k)).1.cnt=Q1 at*
    generalize(xK c m.now m.Gl m.L k x.sr (x.tm/c.W k)).1.sum=Q2 at*
    generalize(xK c m.now m.Gl m.L k x.sr (x.tm/c.W k)).1.mn=Q3 at*
    generalize(xK c m.now m.Gl m.L k x.sr (x.tm/c.W k)).1.mx=Q4 at*
    have a1:=zd a6
    have ad:=zd ah
    have aE:¬s.p=wr.1.size:=by omega
    have au:¬w.1.size=wr.1.size:=by omega
    have ax:¬b=wr.1.size:=by omega
    obtain⟨aG,aH⟩:=hx
    clear a6 ah ak
    rename_i K1 hK1
    refine(fun Q:∀(z:Nat) (Y:C),M wr.1.size wr Y->K1 ((?aa:Nat->Act) z) Y=>?main) ?hc
    case main=>
     have P:=zd Q
     clear Q
     go_region_held3 (fun w'=>w'.cell? ⟨s.p,0,O⟩=D (.pointer (D ⟨s.i.x,0,O⟩))/\w'.cell? ⟨w.1.size,0,O⟩=D (I J x.sr)/\w'.cell? ⟨w.1.size,1,O⟩=D (I J x.tm)/\w'.cell? ⟨s.p,8,O⟩=D (.slice (D ⟨b,l,O⟩) c.n cap)/\w'.cell? ⟨b,l+k*3+1,O⟩=D (I J (c.W k))) (first|go_keep|exact⟨(vp (by assumption)).trans (by assumption),(vp (by assumption)).trans (by assumption),(vp (by assumption)).trans (by assumption),(vp (by assumption)).trans (by assumption),(vp (by assumption)).trans (by assumption)⟩) (first
      |(go_at_call 57;(with_reducible refine(ud a5).mono ?_);rintro e V ⟨rfl,g⟩;have a:M wr.1.size wr V:=(ud a1).trans (g.mono (ud a1).size);have ac:=(g.block wr.1.size ap).trans (ud ad);obtain⟨z0,z1,z2,z3,-⟩:=zc ac;have zf:=fun j=>zC ac j;have v0:=(a.cell (p:=⟨s.p,0,O⟩) hl).trans c0;have v1:=(a.cell (p:=⟨w.1.size,0,O⟩) f).trans n0;have v2:=(a.cell (p:=⟨w.1.size,1,O⟩) f).trans n1;have v3:=(a.cell (p:=⟨s.p,8,O⟩) hl).trans c8;have v4:=(a.cell (p:=⟨b,l+k*3+1,O⟩) G).trans g1;have vl:=E hl a.size;have vq:=E f a.size;have vb:=E G a.size;have u:=zd a;clear a g ac)
      |(go_at_call 57;(with_reducible refine(ud a4).mono ?_);rintro e V ⟨rfl,g⟩;have a:M wr.1.size wr V:=ZS g;have v0:=(a.cell (p:=⟨s.p,0,O⟩) hl).trans c0;have v1:=(a.cell (p:=⟨w.1.size,0,O⟩) f).trans n0;have v2:=(a.cell (p:=⟨w.1.size,1,O⟩) f).trans n1;have v3:=(a.cell (p:=⟨s.p,8,O⟩) hl).trans c8;have v4:=(a.cell (p:=⟨b,l+k*3+1,O⟩) G).trans g1;have vl:=E hl a.size;have vq:=E f a.size;have vb:=E G a.size;have aD:¬s.p=V.1.size:=(by omega);have aF:¬w.1.size=V.1.size:=(by omega);have aq:¬b=V.1.size:=(by omega);have u:=zd a;clear a g))
     all_goals(first
      |(have hP:=(ud u).alloc (ud u).size (.cells #[I J Q1,I J Q2,I N Q3,I N Q4] 115);generalize(V.alloc (.cells #[I J Q1,I J Q2,I N Q3,I N Q4] 115))=Y at hP ⊢;generalize V.1.size=z;exact ud P z Y hP)
      |(have hP:=zcr (ud u) (R wr.1.size) (I J Q1) (I J Q2) (I N Q3) (I N Q4);generalize((((V.setCell ⟨wr.1.size,0,O⟩ (I J Q1)).setCell ⟨wr.1.size,1,O⟩ (I J Q2)).setCell ⟨wr.1.size,2,O⟩ (I N Q3)).setCell ⟨wr.1.size,3,O⟩ (I N Q4))=Y at hP ⊢;generalize wr.1.size=z;exact ud P z Y hP))
    case hc=>
     intro z Y ag
     have a2:=zd ((ud HB).trans (ag.mono (ud HB).size))
     refine hK1 _ _ ?_
     clear ag a4 a5 a1 ad c0 c8 n0 n1 g0 g1
     by_cases o:YO c m x k=0
     ·have b0:(YO c m x k==0)=true:=by simpa using o
      have HE:=zd o
      clear o
      go_wp2_with fail
      refine⟨⟨k+1,by omega,by go_num,fun j hj q=>?_,ud a2⟩,by simp[intOf];omega⟩
      by_cases e:j=k
      ·subst e;exact q.2.1 (ud HE)
      ·exact ud v j (by omega) q
     ·have b0:(YO c m x k==0)=false:=by simpa using o
      have aj:=zd o
      have az:¬YO c m x k=0:=o
      clear o
      by_cases o:YO c m x k=12
      ·have HE:=zd o
       go_wp2_with fail
       refine⟨⟨k+1,by omega,by go_num,fun j hj q=>?_,ud a2⟩,by simp[intOf];omega⟩
       by_cases e:j=k
       ·subst e;exact q.2.2 (ud HE)
       ·exact ud v j (by omega) q
      ·have b1:(YO c m x k==12)=false:=by simpa using o
       have HE:=zd o
       go_wp2_with fail
       ·go_ret
        exact⟨⟨true,rfl,by simp only[true_iff];exact⟨k,a8,ud a3,ud aj,ud HE⟩⟩,(ud r).trans ((ud a2).mono (ud r).size)⟩
       all_goals
        rename_i hor
        simp[bne,b0,b1]at hor
   ·have al:(c.F k==t)=false:=by simpa using d
    have a3:=zd d
    clear d
    go_wp2_with fail
    go_roundw
    case rel=>exact⟨k+1,by omega,by go_num,fun j hj q=>by
     by_cases e:j=k
     ·subst e;exact ud a3 q.1
     ·exact ud v j (by omega) q,ud HB⟩
    case measure=>simp[intOf];omega
  ·have ay:k=c.n:=by omega
   have aC:decide ((k:Int)<c.n)=false:=by simp;omega
   clear hS T K a9
   go_wp2_with fail
   go_ret
   exact⟨⟨false,rfl,by simp only[Bool.false_eq_true,false_iff];rintro⟨j,hj,q⟩;exact ud v j (by omega) q⟩,(ud r).trans ((ud HB).mono (ud r).size)⟩
theorem zcd{A:Cl}{v:Int}(h:A.cnt=0):QF A v=⟨A.cnt+1,wrap64 (A.sum+v),v,v⟩:=by simp[QF,h]
theorem zji{A:Cl}{v:Int}(h:¬A.cnt=0)(a:v<A.mn)(b:A.mx<v):QF A v=⟨A.cnt+1,wrap64 (A.sum+v),v,v⟩:=by simp[QF,a,b]
theorem zjj{A:Cl}{v:Int}(h:¬A.cnt=0)(a:v<A.mn)(b:¬A.mx<v):QF A v=⟨A.cnt+1,wrap64 (A.sum+v),v,A.mx⟩:=by simp[QF,h,a,b]
theorem zjk{A:Cl}{v:Int}(h:¬A.cnt=0)(a:¬v<A.mn)(b:A.mx<v):QF A v=⟨A.cnt+1,wrap64 (A.sum+v),A.mn,v⟩:=by simp[QF,h,a,b]
theorem zjl{A:Cl}{v:Int}(h:¬A.cnt=0)(a:¬v<A.mn)(b:¬A.mx<v):QF A v=⟨A.cnt+1,wrap64 (A.sum+v),A.mn,A.mx⟩:=by simp[QF,h,a,b]
theorem zdU{w:C}{B:Nat}{s:Shp}{c:Cf}{ep:Int}{m:MS}{sn:Int}{ns:List Nm}{ks:List Tok}{us:List Int}(h:zM w B s c ep m sn ns ks us)(hc:c.ok)(t:Int)(ht: -1<=t/\t<c.n)(sr wa:Int)(a4:∀x∈ns,0<=x.tm/\x.tm<=100000/\ -2147483648<=x.val/\x.val<=2147483647)(au:ns.length<4398046511104):
  Calls prog 85 #[.pointer (D ⟨s.p,0,O⟩),I J t,I J sr,I J wa] w fun e w'=>∃d:Cl,IsC (fun x=>x.sr=sr/\x.tm/c.wt t=wa) ns d/\e=.returned (.agg #[I J d.cnt,I J d.sum,I N d.mn,I N d.mx])/\M w.1.size w w':=by
 obtain⟨b2,b3,a8,bz⟩:=box2 w (.cells #[I J 0,I J 0,I N 0,I N 0] 115) (.cells #[I J 0,I J 0,I N 0,I N 0] 115)
 have B2:=zd b2
 have B3:=zd b3
 have BZ:=zd bz
 have a6:=zd a8
 have H0:=zd h
 have T:=hc.wt ht.1 ht.2
 obtain⟨an,cn,o⟩:=zL h.nrow
 have av:=h.lt
 clear h b2 b3 bz a8
 go_enter func85,ntmps85
 go_wp2_with fail
 generalize((w.alloc (.cells #[I J 0,I J 0,I N 0,I N 0] 115)).alloc (.cells #[I J 0,I J 0,I N 0,I N 0] 115))=W at*
 go_loopw [10,11] (fun y _ wr=>∃(k:Nat) (A:Cl),k<=ns.length/\y=I J k/\IsC (fun x=>x.sr=sr/\x.tm/c.wt t=wa) (ns.take k) A/\wr.1[w.1.size+1]?=D (Xy A)/\M (w.1.size+1) W wr) (fun y _ _=>ns.length-(intOf y).toNat)
 case atStart=>exact⟨0,qc,z4 _,rfl,IsC.zero (fun x hx=>by simp at hx),ud B3,S _ _⟩
 case round=>
  obtain⟨k,A,hk,rfl,hA,L,hb⟩:=hrel
  have G:M w.1.size w wr:=(ud a6).trans (hb.mono (by omega))
  have hS:zM wr B s c ep m sn ns ks us:=(ud H0).later G
  obtain⟨-,-,-,-,-,-,-,F,-,-⟩:=hS.cells
  rw[o]at F
  have aA:=hS.lt
  have ah:=za L
  have aB:w.1.size<wr.1.size:=by omega
  have ay:(ns.length:Int)<4398046511104:=by omega
  have HS:=zd hS
  have U:=zd hb
  have ac:=zd G
  have HA:=zd hA
  have aw:=zd L
  by_cases ak:k<ns.length
  ·obtain⟨x,hx⟩:=yU ak
   obtain⟨x1,x2,x3,x4⟩:=a4 x (List.mem_of_getElem? hx)
   have a3:=hS.nrow
   rw[o]at a3
   obtain⟨g,ar,hv,_,Q,y0,y1,y2⟩:=zjI a3 hx
   have am:an=D ⟨g,0,O⟩:=by injection hv
   subst am
   have ax:(k:Int)<ns.length:=by omega
   have aa:=hA.cnt
   have a9:=qM (P:=fun x:Nm=>x.sr=sr/\x.tm/c.wt t=wa) (ns.take k)
   rw[List.length_take,Nat.min_eq_left hk]at a9
   have a1:0<=A.cnt:=by omega
   have a2:A.cnt<=k:=by omega
   have HX:=zd hx
   have ab:ns.take (k+1)=ns.take k++[x]:=by
    obtain⟨aj,ap⟩:=List.getElem?_eq_some_iff.1 hx
    rw[List.take_succ_eq_append_getElem aj,ap]
   have z:=zd ab
   clear ab
   have a5:=zk wr (.cells #[I J x.sr,I J x.tm,I N x.val] 87)
   have a0:M wr.1.size wr (wr.alloc (.cells #[I J x.sr,I J x.tm,I N x.val] 87)):=(S _ _).alloc (R _) _
   have q2:=(a0.block (w.1.size+1) ah).trans L
   have a7:=hS.later a0
   have b:=zd a0
   have u:=zd q2
   have f:=fun W (e:W=(wr.alloc (.cells #[I J x.sr,I J x.tm,I N x.val] 87)).drew)=>zd (e▸Yc (a7.later (S _ _).drew) hc t ht.1 ht.2)
   obtain⟨n0,n1,n2,-⟩:=zc a5
   have nz:=za a5
   have cz:=za q2
   obtain⟨d0,d1,d2,d3,-⟩:=zc q2
   have df:∀j,(wr.alloc (.cells #[I J x.sr,I J x.tm,I N x.val] 87)).frozen? ⟨w.1.size+1,j,O⟩=false:=fun j=>zC q2 j
   have i:IntKind.i64.wrap (x.tm.tdiv (c.wt t))=x.tm/c.wt t:=by
    have Y:x.tm/c.wt t<=x.tm:=Int.ediv_le_self _ x1
    have X:0<=x.tm/c.wt t:=Int.ediv_nonneg x1 (by omega)
    rw[Int.tdiv_eq_ediv_of_nonneg x1,IntKind.wrap_i64];omega
   have H:¬c.wt t=0:=by omega
   have al:¬w.1.size+1=wr.1.size:=by omega
   clear hS hb G hA L hx a3 hv a5 a0 q2 a7 aa a9 a4
   by_cases hs:x.sr=sr
   ·subst hs
    have r:(x.sr !=x.sr)=false:=by simp
    by_cases hw:x.tm/c.wt t=wa
    ·subst hw
     have ao:(x.tm/c.wt t !=x.tm/c.wt t)=false:=by simp
     by_cases V:A.cnt=0
     ·have aq:(A.cnt==0)=true:=by simp[V]
      have l:=zd (zcd (v:=x.val) V)
      clear V
      go_wp2_with fail
      generalize(wr.alloc (.cells #[I J x.sr,I J x.tm,I N x.val] 87))=Z at*
      refine yM (by kernel_rfl) (by kernel_rfl) ?_
      iterate 9 ((with_reducible refine wpStill_step (fun K a=>?_));go_simp;(with_reducible refine a _ ?_);clear a K)
      still_call (ud (f _ rfl))
      iterate 4 ((with_reducible refine wpStill_step (fun K a=>?_));go_simp;(with_reducible refine a _ ?_);clear a K)
      refine wpStill_nil ?_
      clear f i n0 n1 r y0 y1 y2 F H o T Q
      go_wp2_with fail
      go_roundw
      case rel=>
       refine⟨k+1,QF A x.val,by omega,by go_num,?_,?_,?_⟩
       ·rw[ud z];exact(ud HA).add ⟨rfl,rfl⟩
       ·rw[ud l];exact zjt (ud u) _ _ _ _
       ·(try refine Below.drew ?_)
        repeat(refine kS ?_ (R _))
        first|exact((ud U).trans ((ud b).mono (by omega))).drew|exact(ud U).trans ((ud b).mono (by omega))
      case measure=>simp[intOf];omega
     ·have aq:(A.cnt==0)=false:=by simp[V]
      by_cases Y:x.val<A.mn
      ·by_cases X:A.mx<x.val
       ·have l:=zd (zji (v:=x.val) V Y X)
        clear V
        go_wp2_with fail
        generalize(wr.alloc (.cells #[I J x.sr,I J x.tm,I N x.val] 87))=Z at*
        refine yM (by kernel_rfl) (by kernel_rfl) ?_
        iterate 9 ((with_reducible refine wpStill_step (fun K a=>?_));go_simp;(with_reducible refine a _ ?_);clear a K)
        still_call (ud (f _ rfl))
        iterate 4 ((with_reducible refine wpStill_step (fun K a=>?_));go_simp;(with_reducible refine a _ ?_);clear a K)
        refine wpStill_nil ?_
        clear f i n0 n1 r y0 y1 y2 F H o T Q
        go_wp2_with fail
        go_roundw
        case rel=>
         refine⟨k+1,QF A x.val,by omega,by go_num,?_,?_,?_⟩
         ·rw[ud z];exact(ud HA).add ⟨rfl,rfl⟩
         ·rw[ud l];exact zjt (ud u) _ _ _ _
         ·(try refine Below.drew ?_)
          repeat(refine kS ?_ (R _))
          first|exact((ud U).trans ((ud b).mono (by omega))).drew|exact(ud U).trans ((ud b).mono (by omega))
        case measure=>simp[intOf];omega
       ·have l:=zd (zjj (v:=x.val) V Y X)
        clear V
        have ag:decide (A.mx<x.val)=false:=by simpa using X
        clear X
        go_wp2_with fail
        generalize(wr.alloc (.cells #[I J x.sr,I J x.tm,I N x.val] 87))=Z at*
        refine yM (by kernel_rfl) (by kernel_rfl) ?_
        iterate 9 ((with_reducible refine wpStill_step (fun K a=>?_));go_simp;(with_reducible refine a _ ?_);clear a K)
        still_call (ud (f _ rfl))
        iterate 4 ((with_reducible refine wpStill_step (fun K a=>?_));go_simp;(with_reducible refine a _ ?_);clear a K)
        refine wpStill_nil ?_
        clear f i n0 n1 r y0 y1 y2 F H o T Q
        go_wp2_with fail
        go_roundw
        case rel=>
         refine⟨k+1,QF A x.val,by omega,by go_num,?_,?_,?_⟩
         ·rw[ud z];exact(ud HA).add ⟨rfl,rfl⟩
         ·rw[ud l];exact cl_2 (ud u) _ _ _
         ·(try refine Below.drew ?_)
          repeat(refine kS ?_ (R _))
          first|exact((ud U).trans ((ud b).mono (by omega))).drew|exact(ud U).trans ((ud b).mono (by omega))
        case measure=>simp[intOf];omega
      ·by_cases X:A.mx<x.val
       ·have l:=zd (zjk (v:=x.val) V Y X)
        clear V
        have af:decide (x.val<A.mn)=false:=by simpa using Y
        clear Y
        go_wp2_with fail
        generalize(wr.alloc (.cells #[I J x.sr,I J x.tm,I N x.val] 87))=Z at*
        refine yM (by kernel_rfl) (by kernel_rfl) ?_
        iterate 9 ((with_reducible refine wpStill_step (fun K a=>?_));go_simp;(with_reducible refine a _ ?_);clear a K)
        still_call (ud (f _ rfl))
        iterate 4 ((with_reducible refine wpStill_step (fun K a=>?_));go_simp;(with_reducible refine a _ ?_);clear a K)
        refine wpStill_nil ?_
        clear f i n0 n1 r y0 y1 y2 F H o T Q
        go_wp2_with fail
        go_roundw
        case rel=>
         refine⟨k+1,QF A x.val,by omega,by go_num,?_,?_,?_⟩
         ·rw[ud z];exact(ud HA).add ⟨rfl,rfl⟩
         ·rw[ud l];exact cl_3 (ud u) _ _ _
         ·(try refine Below.drew ?_)
          repeat(refine kS ?_ (R _))
          first|exact((ud U).trans ((ud b).mono (by omega))).drew|exact(ud U).trans ((ud b).mono (by omega))
        case measure=>simp[intOf];omega
       ·have l:=zd (zjl (v:=x.val) V Y X)
        clear V
        have af:decide (x.val<A.mn)=false:=by simpa using Y
        have ag:decide (A.mx<x.val)=false:=by simpa using X
        clear Y X
        go_wp2_with fail
        generalize(wr.alloc (.cells #[I J x.sr,I J x.tm,I N x.val] 87))=Z at*
        refine yM (by kernel_rfl) (by kernel_rfl) ?_
        iterate 9 ((with_reducible refine wpStill_step (fun K a=>?_));go_simp;(with_reducible refine a _ ?_);clear a K)
        still_call (ud (f _ rfl))
        iterate 4 ((with_reducible refine wpStill_step (fun K a=>?_));go_simp;(with_reducible refine a _ ?_);clear a K)
        refine wpStill_nil ?_
        clear f i n0 n1 r y0 y1 y2 F H o T Q
        go_wp2_with fail
        go_roundw
        case rel=>
         refine⟨k+1,QF A x.val,by omega,by go_num,?_,?_,?_⟩
         ·rw[ud z];exact(ud HA).add ⟨rfl,rfl⟩
         ·rw[ud l];exact cl_0 (ud u) _ _
         ·(try refine Below.drew ?_)
          repeat(refine kS ?_ (R _))
          first|exact((ud U).trans ((ud b).mono (by omega))).drew|exact(ud U).trans ((ud b).mono (by omega))
        case measure=>simp[intOf];omega
    ·have ao:(x.tm/c.wt t !=wa)=true:=by simpa using hw
     have ae:=zd hw
     clear hw
     go_wp2_with fail
     generalize(wr.alloc (.cells #[I J x.sr,I J x.tm,I N x.val] 87))=Z at*
     refine yM (by kernel_rfl) (by kernel_rfl) ?_
     iterate 9 ((with_reducible refine wpStill_step (fun K a=>?_));go_simp;(with_reducible refine a _ ?_);clear a K)
     still_call (ud (f _ rfl))
     iterate 4 ((with_reducible refine wpStill_step (fun K a=>?_));go_simp;(with_reducible refine a _ ?_);clear a K)
     refine wpStill_nil ?_
     clear f i n0 n1 r y0 y1 y2 F H o T Q
     go_wp2_with fail
     refine⟨⟨k+1,A,by omega,by go_num,?_,ud u,((ud U).trans ((ud b).mono (by omega))).drew⟩,by simp[intOf];omega⟩
     rw[ud z];exact(ud HA).skip (fun e=>ud ae e.2)
   ·have r:(x.sr !=sr)=true:=by simpa using hs
    have ad:=zd hs
    clear hs
    go_wp2_with fail
    generalize(wr.alloc (.cells #[I J x.sr,I J x.tm,I N x.val] 87))=Z at*
    refine yM (by kernel_rfl) (by kernel_rfl) ?_
    iterate 5 ((with_reducible refine wpStill_step (fun K a=>?_));go_simp;(with_reducible refine a _ ?_);clear a K)
    (try simp only[r])
    iterate 8 ((with_reducible refine Jz (by kernel_rfl) ?_);(try simp only[Act.put,List.setIfInBounds_toArray,List.set_cons_zero,List.set_cons_succ]))
    iterate 1 ((with_reducible refine wpStill_step (fun K a=>?_));go_simp;(with_reducible refine a _ ?_);clear a K)
    refine wpStill_nil ?_
    go_wp2_with fail
    refine⟨⟨k+1,A,by omega,by go_num,?_,ud u,((ud U).trans ((ud b).mono (by omega))).drew⟩,by simp[intOf];omega⟩
    rw[ud z];exact(ud HA).skip (fun e=>ud ad e.1)
  ·have ai:k=ns.length:=by omega
   subst ai
   have az:decide ((ns.length:Int)<ns.length)=false:=by simp
   have hd:=L
   obtain⟨d0,d1,d2,d3,-⟩:=zc hd
   have q:=(hb.block w.1.size (by omega)).trans (ud B2)
   obtain⟨d4,d5,d6,d7,-⟩:=zc q
   have df:∀j,wr.frozen? ⟨w.1.size,j,O⟩=false:=fun j=>zC q j
   have Q1:=zd q
   have al:¬w.1.size+1=w.1.size:=by omega
   clear q hd L hb hS G hA a4
   go_wp2_with fail
   have hf:=set4 (ud Q1) (I J A.cnt) (I J A.sum) (I N A.mn) (I N A.mx)
   have hA:=ud HA
   rw[List.take_length]at hA
   refine bodyPost_ret (v:=.agg #[I J A.cnt,I J A.sum,I N A.mn,I N A.mx]) (results_cell_row results85 _ _ w.1.size _ _ _ _ rfl hf underlying115 rfl (by kernel_rfl)) rfl ⟨A,hA,rfl,?_⟩
   refine(ud ac).trans ?_
   repeat(refine kS ?_ (R _))
   exact S _ _
theorem zcN{tm wd:Int}(f:0<=tm)(g:tm<=100000)(h:1<=wd/\wd<=1000):0<=tm/wd/\tm/wd<=100000/\0<=(tm/wd+1)*wd/\(tm/wd+1)*wd<=101000:=by
 have a:=Int.ediv_nonneg f (show 0<=wd by omega)
 have b:tm/wd<=tm:=Int.ediv_le_self _ f
 have c:=Int.ediv_mul_le tm (show wd≠0 by omega)
 have d:(tm/wd+1)*wd=tm/wd*wd+wd:=by rw[Int.add_mul,Int.one_mul]
 have e:=Int.mul_nonneg a (show 0<=wd by omega)
 omega
theorem zeh{w:C}{B:Nat}{s:Shp}{c:Cf}{ep:Int}{m:MS}{ns:List Nm}{ks:List Tok}{us:List Int}(h:zM w B s c ep m m.now ns ks us)(G:c.ok)(hf:c.fits)(hm:MOk c ep m)(hi:jK c m ns)(aQ:ns.length<4398046511104)(x:Nm)(hx:x∈ns)(t:Int)(H: -1<=t/\t<c.n)(F:Bool)
  (al:F=true->(xK c m.now m.Gl m.L t x.sr (x.tm/c.wt t)).2≠11/\((xK c m.now m.Gl m.L t x.sr (x.tm/c.wt t)).2=0->(x.tm/c.wt t+1)*c.wt t+c.keep t<=m.now->Yg c m t x)):
  Calls prog 42 #[.pointer (D ⟨s.p,0,O⟩),I J t,.agg #[I J x.sr,I J x.tm,I N x.val],.bool F] w fun e w'=>e=.returned (.bool true)/\M w.1.size w w':=by
 obtain⟨x1,x2,x3,x4,x5,x6⟩:=hi.tm x hx
 have a8:=hm.now
 have aV:=G.wt H.1 H.2
 obtain⟨w1,w2,w3,w4⟩:=zcN (tm:=x.tm) (wd:=c.wt t) x1 (by omega) aV
 have hT:=hi.told G hf hm hx H.1 H.2
 have aR:∀y∈ns,0<=y.tm/\y.tm<=100000/\ -2147483648<=y.val/\y.val<=2147483647:=fun y hy=>by have:=hi.tm y hy;omega
 have ax:M w.1.size w (w.alloc (.cells #[I J x.sr,I J x.tm,I N x.val] 87)):=(S _ _).alloc (R _) _
 have q0:=zk w (.cells #[I J x.sr,I J x.tm,I N x.val] 87)
 have hS:=h.later ax
 have HS:=zd hS
 have b6:=zd ax
 have Q0:=zd q0
 have aD:=za q0
 obtain⟨n0,n1,-⟩:=zc q0
 have ar:=fun W (e:M (w.alloc (.cells #[I J x.sr,I J x.tm,I N x.val] 87)).1.size (w.alloc (.cells #[I J x.sr,I J x.tm,I N x.val] 87)) W)=>zd (Yc (hS.later e) G t H.1 H.2)
 have aT:IntKind.i64.wrap (x.tm.tdiv (c.wt t))=x.tm/c.wt t:=by rw[Int.tdiv_eq_ediv_of_nonneg x1,IntKind.wrap_i64];omega
 have bo:¬c.wt t=0:=by omega
 have HT:=zd hT
 have b:=zd al
 have b7:=zd aR
 have HI:=zd hi
 clear h hT al aR ax q0 hS hi hm hf
 go_enter func42,ntmps42
 go_wp2_with fail
 generalize(w.alloc (.cells #[I J x.sr,I J x.tm,I N x.val] 87))=X at*
 refine yM (by kernel_rfl) (by kernel_rfl) ?_
 iterate 4 ((with_reducible refine wpStill_step (fun K hK=>?_));go_simp;(with_reducible refine hK _ ?_);clear hK K)
 still_call (ud (ar _ (S _ _).drew))
 iterate 2 ((with_reducible refine wpStill_step (fun K hK=>?_));go_simp;(with_reducible refine hK _ ?_);clear hK K)
 refine wpStill_nil ?_
 generalize aW:x.tm/c.wt t=wn at*
 have au:=zd aW
 clear aW aT
 obtain⟨en,af⟩:∃en,(wn+1)*c.wt t=en:=⟨_,rfl⟩
 rw[af]at w3 w4 b
 have u:wrap64 ((wn+1)*c.wt t)=en:=by rw[af];unfold wrap64;omega
 have aH:=zd af
 have aj:=zd u
 clear af u
 have ae:=ud HS
 obtain⟨aM,-,-,aN,-,-,aO,-,-,-⟩:=ae.cells
 have aS:=ae.lt
 go_wp2_with fail
 refine(ud (ar _ (S _ _).drew)).mono ?_
 rintro e V0 ⟨rfl,rfl⟩
 generalize av:xK c m.now m.Gl m.L t x.sr wn=Q at*
 have ad:=zd (ae.later (S _ _).drew)
 have aL:Hid (M X.1.size X X.drew):=(S _ _).drew
 have aJ:=zd aD
 have bj:X.drew.1.size=X.1.size:=rfl
 clear ae aV bj
 have c0:X.drew.cell? ⟨s.p,0,O⟩=D (.pointer (D ⟨s.i.x,0,O⟩)):=aM
 have c4:X.drew.cell? ⟨s.p,4,O⟩=D (I J c.la):=aN
 have c9:X.drew.cell? ⟨s.p,9,O⟩=D (I J m.now):=aO
 have ai:X.drew.cell? ⟨w.1.size,0,O⟩=D (I J x.sr):=n0
 have f:s.p<X.drew.1.size:=aS
 have o:w.1.size<X.drew.1.size:=aD
 have an:Hid (M w.1.size w X.drew):=(ud b6).drew
 clear aM aN aO n0 n1 aS aD HS ar
 generalize X.drew=U at*
 go_wp2_with fail
 have u:=ud aj
 simp only[u]
 clear u aj
 have ay:M U.1.size U (U.alloc (.cells #[I J 0,I J 0,I N 0,I N 0] 115)).drew:=((S _ _).alloc (R _) _).drew
 have aX:U.1.size<(U.alloc (.cells #[I J 0,I J 0,I N 0,I N 0] 115)).drew.1.size:=by show U.1.size<(U.alloc (.cells #[I J 0,I J 0,I N 0,I N 0] 115)).1.size;rw[zI];omega
 have aP:(U.alloc (.cells #[I J 0,I J 0,I N 0,I N 0] 115)).drew.1[U.1.size]?=D (.cells #[I J 0,I J 0,I N 0,I N 0] 115 (0,0)):=zk U _
 have ac:=zd (yS ((ud ad).later ay).mill G a8 t x.sr wn H ⟨x3,x4⟩ ⟨w1,w2⟩)
 have ab:=zd (yS ((ud ad).later (S _ _).drew).mill G a8 t x.sr wn H ⟨x3,x4⟩ ⟨w1,w2⟩)
 rw[av]at ac ab
 have bm:=zd av
 have am:=zd ay
 have aG:=zd aP
 have bg:¬s.p=U.1.size:=by omega
 have aU:¬w.1.size=U.1.size:=by omega
 clear ay aP av
 obtain⟨⟨Q1,T,Z,Q4⟩,QE⟩:=Q
 dsimp only at ac ab b
 rename_i K1 hK1
 refine(fun ak:∀(z:Nat) (Y:C),U.1.size<=z->Y.1[z]?=D (Xy ⟨Q1,T,Z,Q4⟩)->M U.1.size U Y->K1 ((?aa:Nat->Act) z) Y=>?main) ?G
 case main=>
  have a4:=zd ak
  clear ak
  go_region_held3 (fun w'=>w'.cell? ⟨s.p,0,O⟩=D (.pointer (D ⟨s.i.x,0,O⟩))/\w'.cell? ⟨w.1.size,0,O⟩=D (I J x.sr)) (first|go_keep|exact⟨(vp (by assumption)).trans (by assumption),(vp (by assumption)).trans (by assumption)⟩) (first
   |(go_at_call 57;(with_reducible refine(ud ac).mono ?_);rintro e V ⟨rfl,P⟩;have a:M U.1.size U V:=(ud am).trans (P.mono (ud am).size);have ah:=(P.block U.1.size aX).trans (ud aG);obtain⟨z0,z1,z2,z3,-⟩:=zc ah;have zf:=fun j=>zC ah j;have v0:=(a.cell (p:=⟨s.p,0,O⟩) f).trans c0;have v1:=(a.cell (p:=⟨w.1.size,0,O⟩) o).trans ai;have vl:=E f a.size;have vq:=E o a.size;have g:=zd a;have ba:=zd ah;clear a P ah)
   |(go_at_call 57;(with_reducible refine(ud ab).mono ?_);rintro e V ⟨rfl,P⟩;have a:M U.1.size U V:=ZS P;have v0:=(a.cell (p:=⟨s.p,0,O⟩) f).trans c0;have v1:=(a.cell (p:=⟨w.1.size,0,O⟩) o).trans ai;have vl:=E f a.size;have vq:=E o a.size;have bp:¬s.p=V.1.size:=(by omega);have bq:¬w.1.size=V.1.size:=(by omega);have g:=zd a;clear a P))
  all_goals(first
   |(have hP:=(ud g).alloc (ud g).size (.cells #[I J Q1,I J T,I N Z,I N Q4] 115);have hR:=zk V (.cells #[I J Q1,I J T,I N Z,I N Q4] 115);have hL:=(ud g).size;generalize(V.alloc (.cells #[I J Q1,I J T,I N Z,I N Q4] 115))=Y at hP hR ⊢;generalize V.1.size=z at hR hL ⊢;exact ud a4 z Y hL hR hP)
   |(have hP:=zcr (ud g) (R U.1.size) (I J Q1) (I J T) (I N Z) (I N Q4);have hR:=YY (ud ba) (I J Q1) (I J T) (I N Z) (I N Q4);have hL:=R U.1.size;generalize((((V.setCell ⟨U.1.size,0,O⟩ (I J Q1)).setCell ⟨U.1.size,1,O⟩ (I J T)).setCell ⟨U.1.size,2,O⟩ (I N Z)).setCell ⟨U.1.size,3,O⟩ (I N Q4))=Y at hP hR ⊢;have CL:=zd (ud a4);generalize br:U.1.size=z at hR hL ⊢;exact ud a4 z Y (by omega) hR hP))
 case G=>
  intro z Y bn hR q
  refine hK1 _ _ ?_
  clear ab ac am aG aX
  have aw:=(ud ad).later q
  have y4:=(q.cell (p:=⟨s.p,4,O⟩) f).trans c4
  have y9:=(q.cell (p:=⟨s.p,9,O⟩) f).trans c9
  have b4:=E f q.size
  have be:0<=c.keep t/\c.keep t<=1000:=by
   unfold Cf.keep
   split
   ·exact G.ke
   ·exact G.K _ (by omega)
  obtain⟨k1,k2⟩:=be
  obtain⟨aY,aZ⟩:=a8
  obtain⟨bs,bt⟩:=G.la
  have aI:=zd (zec (aw.later (S _ _).drew.drew) G t H.1 H.2)
  have aK:=zd aw
  have HR:=zd hR
  have ao:=zd q
  have y0:=(q.cell (p:=⟨w.1.size,0,O⟩) o).trans ai
  have b5:=E o q.size
  have Y0:=zd y0
  clear aw hR q c0 c4 c9 ai f o bg aU y0
  go_wp2_with fail
  go_still (by kernel_rfl)
  go_wp2_with fail
  refine yM (by kernel_rfl) (by kernel_rfl) ?_
  iterate 3 ((with_reducible refine wpStill_step (fun K hK=>?_));go_simp;(with_reducible refine hK _ ?_);clear hK K)
  still_call (ud aI)
  iterate 7 ((with_reducible refine wpStill_step (fun K hK=>?_));go_simp;(with_reducible refine hK _ ?_);clear hK K)
  refine wpStill_nil ?_
  clear aI y4 y9
  have e1:IntKind.i64.wrap (m.now-c.la)=m.now-c.la:=by rw[IntKind.wrap_i64];omega
  have e2:IntKind.i64.wrap (en+c.keep t)=en+c.keep t:=by rw[IntKind.wrap_i64];omega
  simp only[e1,e2]
  clear e1 e2
  have r:c.clo m.now (zG c t x)↔en<=m.now-c.la:=by
   unfold Cf.clo zG
   dsimp only
   rw[ud au,ud aH]
  have y0:Y.drew.drew.cell? ⟨w.1.size,0,O⟩=D (I J x.sr):=ud Y0
  have bh:w.1.size<Y.drew.drew.1.size:=b5
  have bl:s.p<Y.drew.drew.1.size:=b4
  have aq:Hid (Y.drew.drew.1[z]?=D (Xy ⟨Q1,T,Z,Q4⟩)):=ud HR
  have l:Hid (M w.1.size w Y.drew.drew):=(ud an).trans (((ud ao).drew.drew).mono (ud an).size)
  have ap:Hid (Y.drew.drew.1[w.1.size]?=D (.cells #[I J x.sr,I J x.tm,I N x.val] 87 (0,0))):=((ud ao).drew.drew.block _ (E (ud aJ) (ud aL).size)).trans ((ud aL).block _ (ud aJ)|>.trans (ud Q0))
  have A:=zd ((ud aK).later (S _ _).drew.drew)
  clear Y0 b5 b4 HR ao aK ad an
  have hT:=ud HT
  clear HT
  generalize ag:en+c.keep t=ek at*
  rcases hT with⟨h1,h2⟩|⟨h1,h2,h3⟩|⟨h1,h2,h3⟩|⟨h1,h2,h3,h4⟩
  ·injection h2 with a5 a6
   subst a6
   have v:decide (en<=m.now-c.la)=false:=by simpa using fun e=>h1 (r.2 e)
   simp only[v]
   clear r h1 a5 ag b
   go_wp2_with fail
   go_ret
   exact⟨rfl,ud l⟩
  ·subst h2
   have v:decide (en<=m.now-c.la)=true:=by simpa using r.1 h1
   simp only[v]
   clear r h1
   have HC:=zd (zdU (ud A) G t H x.sr wn (ud b7) aQ)
   have b9:Hid (F=true->ek<=m.now->Yg c m t x):=fun h=>(ud b h).2 rfl
   clear b
   have H3:Hid (IsC (fun y=>y.sr=x.sr/\y.tm/c.wt t=wn) ns ⟨Q1,T,Z,Q4⟩):=h3.congr (fun y _=>by
    unfold zG
    simp only[Sg.mk.injEq,true_and,ud au])
   clear h3
   go_wp2_with fail
   refine(ud HC).mono ?_
   rintro e V ⟨d,hd,rfl,a⟩
   have bd:d=⟨Q1,T,Z,Q4⟩:=hd.one (ud H3)
   subst bd
   dsimp only
   clear hd HC H3
   have a7:M Y.drew.drew.1.size Y.drew.drew (V.alloc (.cells #[I J Q1,I J T,I N Z,I N Q4] 115)):=a.alloc a.size _
   have aE:=(a7.block z (za (ud aq))).trans (ud aq)
   have aA:=zk V (.cells #[I J Q1,I J T,I N Z,I N Q4] 115)
   have aB:=(a7.block w.1.size bh).trans (ud ap)
   obtain⟨a0,a1,a2,a3,-⟩:=zc aE
   obtain⟨b0,b1,b2,b3,-⟩:=zc aA
   obtain⟨n0,n1,n2,-⟩:=zc aB
   have lz:=za aE
   have ld:=za aA
   have ln:=za aB
   have b8:=zd ((ud A).later a7)
   have g:=zd ((ud l).trans (a7.mono (ud l).size))
   clear a7 aE aA aB a y0 A l ap aq
   cases F with
   |false=>
    go_wp2_with fail
    go_ret
    exact⟨rfl,ud g⟩
   |true=>
    by_cases a9:ek<=m.now
    ·have aC:decide (ek<=m.now)=true:=by simpa using a9
     have bi:Yg c m t x:=by
      have h:=ud b9
      first|exact h rfl a9|exact h a9
     have HW:=zd (Yb (ud b8) G ⟨aY,aZ⟩ t H x ⟨x1,by omega⟩ ⟨x3,x4⟩)
     go_wp2_with fail
     refine(ud HW).mono ?_
     rintro e V2 ⟨⟨bb,rfl,hbb⟩,a⟩
     have az:bb=true:=hbb.2 bi
     subst az
     have aF:=zd ((ud g).trans (a.mono (ud g).size))
     clear a HW hbb
     go_wp2_with fail
     go_ret
     exact⟨rfl,ud aF⟩
    ·have aC:decide (ek<=m.now)=false:=by simpa using a9
     clear a9
     go_wp2_with fail
     go_ret
     exact⟨rfl,ud g⟩
  ·injection h2 with a5 a6
   subst a6
   have v:decide (en<=m.now-c.la)=true:=by simpa using r.1 h1
   have bc:F=false:=by
    cases F with
    |false=>rfl
    |true=>exact absurd rfl (ud b rfl).1
   subst bc
   simp only[v]
   clear r h1 a5 ag b
   go_wp2_with fail
   go_ret
   exact⟨rfl,ud l⟩
  ·injection h2 with a5 a6
   subst a6
   have v:decide (en<=m.now-c.la)=true:=by simpa using r.1 h1
   have aC:decide (ek<=m.now)=true:=by
    have:ek<=m.now:=by
     rw[<-ag,<-ud aH,<-ud au];exact h3
    simpa using this
   have bf:¬Yg c m t x:=fun⟨k,hk,hF,q0,bk⟩=>by
    have:=h4 k hk hF
    rw[vZ]at this
    exact this.elim q0 bk
   simp only[v,aC]
   clear r h1 a5 ag b h3 h4
   have HW:=zd (Yb (ud A) G ⟨aY,aZ⟩ t H x ⟨x1,by omega⟩ ⟨x3,x4⟩)
   obtain⟨-,y1,y2,-⟩:=zc (ud ap)
   go_wp2_with fail
   refine(ud HW).mono ?_
   rintro e V ⟨⟨bb,rfl,hbb⟩,a⟩
   have az:bb=false:=by
    cases bb with
    |false=>rfl
    |true=>exact absurd (hbb.1 rfl) bf
   subst az
   have g:=zd ((ud l).trans (a.mono (ud l).size))
   clear a HW hbb
   go_wp2_with fail
   go_ret
   exact⟨rfl,ud g⟩
def zhd(c:Cf)(m:MS)(ns:List Nm):Prop:=∀x∈ns,∀t:Int,-1<=t->t<c.n->(xK c m.now m.Gl m.L t x.sr (x.tm/c.wt t)).2≠11/\((xK c m.now m.Gl m.L t x.sr (x.tm/c.wt t)).2=0->(x.tm/c.wt t+1)*c.wt t+c.keep t<=m.now->Yg c m t x)
theorem zbH{w:C}{B:Nat}{s:Shp}{c:Cf}{ep:Int}{m:MS}{ns:List Nm}{ks:List Tok}{us:List Int}(h:zM w B s c ep m m.now ns ks us)(L:c.ok)(hf:c.fits)(hm:MOk c ep m)(hi:jK c m ns)(v:ns.length<4398046511104)(l:Bool)(f:l=true->zhd c m ns):
  Calls prog 14 #[.pointer (D ⟨s.p,0,O⟩),.bool l] w fun e w'=>e=.returned (.bool true)/\M w.1.size w w':=by
 have H:=zd h
 have F:=fun(W:C) (hW:M w.1.size w W) (x:Nm) (z:x∈ns) (t:Int) (Y: -1<=t/\t<c.n)=>zd (zeh (h.later hW) L hf hm hi v x z t Y l (fun e=>f e x z t Y.1 Y.2))
 obtain⟨an,cn,q⟩:=zL h.nrow
 obtain⟨b,ac,cap,u,a3,P⟩:=h.tiers L
 have a9:=L.n4
 clear h hm hi f hf P
 go_enter func14,ntmps14
 go_wp2_with fail
 go_loopw [5,6,7] (fun y _ _ wr=>∃k:Nat,k<=ns.length/\y=I J k/\M w.1.size w wr) (fun y _ _ _=>ns.length-(intOf y).toNat)
 case atStart=>exact⟨0,z4 _,rfl,S _ _⟩
 case round=>
  obtain⟨k,hk,rfl,d⟩:=hrel
  have a:=(ud H).later d
  obtain⟨-,-,-,-,-,c8,-,G,-,-⟩:=a.cells
  rw[q]at G
  rw[u]at c8
  have ab:=a.lt
  have a8:(ns.length:Int)<4398046511104:=by omega
  have aa:(c.n:Int)<=4:=by omega
  have HS:=zd a
  have HB:=zd d
  by_cases U:k<ns.length
  ·obtain⟨x,z⟩:=yU U
   have a0:=List.mem_of_getElem? z
   have a7:(k:Int)<ns.length:=by omega
   clear a d
   go_wp2_with fail
   go_loopw [6,7] (fun y _ wr=>∃j:Nat,j<=c.n+1/\y=I J ((j:Int)-1)/\M w.1.size w wr) (fun y _ _=>c.n+1-(intOf y+1).toNat)
   case atStart=>exact⟨0,z4 _,rfl,ud HB⟩
   case round=>
    obtain⟨j,hj,rfl,d⟩:=hrel
    have a:=(ud H).later d
    obtain⟨-,-,-,-,-,d8,-,K,-,-⟩:=a.cells
    rw[q]at K
    rw[u]at d8
    have a2:=a.lt
    have i:=zd d
    by_cases a5:j<c.n+1
    ·have Q:(j:Int)-1<c.n:=by omega
     have o:=a.nrow
     rw[q]at o
     obtain⟨g,a1,hv,_,a4,y0,y1,y2⟩:=zjI o z
     have Z:an=D ⟨g,0,O⟩:=by injection hv
     subst Z
     have HT:=F _ d x a0 ((j:Int)-1) ⟨by omega,Q⟩
     clear a d o hv
     go_wp2_with fail
     refine(ud HT).mono ?_
     rintro e V ⟨rfl,r⟩
     have A:=zd ((ud i).trans (r.mono (ud i).size))
     clear r HT
     go_wp2_with fail
     go_roundw
     case rel=>exact⟨j+1,by omega,by go_num,ud A⟩
     case measure=>simp[intOf];omega
    ·have a6:(j:Int)-1=c.n:=by omega
     have X:decide ((j:Int)-1<c.n)=false:=by simp;omega
     clear a d
     go_wp2_with fail
     go_roundw
     case rel=>exact⟨k+1,by omega,by go_num,ud i⟩
     case measure=>simp[intOf];omega
  ·have T:k=ns.length:=by omega
   subst T
   have X:decide ((ns.length:Int)<ns.length)=false:=by simp
   clear a d
   go_wp2_with fail
   go_ret
   exact⟨rfl,ud HB⟩
theorem jK.acts{c:Cf}{ep:Int}{m i m':MS}{ns a:List Nm}(d:c.ok)(e:c.fits)(g:SOk c ep m ns.length)(h:jK c m ns)(f:ns.length+1<9223372036854775807)(b:yn c ep m ns i a)(j:yn c ep i a m' a):jK c m' a:=by
 have k:=b.nu
 exact(h.act d e g (by omega) b).act d e (b.ok d e g) (by omega) j
theorem zbz(s le la wi ke qu:Int)(a:Option Addr)(n cap:Nat)(F0 W0 K0:Nat->Int)(sa:Option Addr)(k T:Nat)(G:Nat->X8)(w:C)(x:Zz w)(h1: -9223372036854775808<=s/\s<=9223372036854775807)(h2: -9223372036854775808<=le/\le<=9223372036854775807)(h3: -9223372036854775808<=la/\la<=9223372036854775807)(h4: -9223372036854775808<=wi/\wi<=9223372036854775807)(h5: -9223372036854775808<=ke/\ke<=9223372036854775807)(h6: -9223372036854775808<=qu/\qu<=9223372036854775807)(ab:TS w a n F0 W0 K0)(hn:n<=140737488355328)(hF:∀i,i<n-> -9223372036854775808<=F0 i/\F0 i<=9223372036854775807)(hW:∀i,i<n-> -9223372036854775808<=W0 i/\W0 i<=9223372036854775807)(hK:∀i,i<n-> -9223372036854775808<=K0 i/\K0 i<=9223372036854775807)(a4:KS w sa k G)(ar:k<4398046511104)(hG:∀i,i<k->(G i).fits):
  Calls prog 5 #[.agg #[I J s,I J le,I J la,I J wi,I J ke,I J qu,.slice a n cap],.slice sa k T] w fun e w'=>e=.returned (.bool true)/\M w.1.size w w':=by
 have q:M w.1.size w (w.alloc (.cells #[I J s,I J le,I J la,I J wi,I J ke,I J qu,.slice a n cap] 27)):=(S _ _).alloc (R _) _
 have q0:=zk w (.cells #[I J s,I J le,I J la,I J wi,I J ke,I J qu,.slice a n cap] 27)
 obtain⟨r0,r1,r2,r3,r4,r5,r6,-⟩:=zc q0
 have av:=za q0
 have K:=zd (ZJ s le la wi ke qu a n cap F0 W0 K0 (w.alloc (.cells #[I J s,I J le,I J la,I J wi,I J ke,I J qu,.slice a n cap] 27)) (vx x q) h1 h2 h3 h4 h5 h6 (ab.below q) hn hF hW hK)
 clear x
 have z:=zd q
 have ae:=zd a4
 have HG:=zd hG
 clear q q0 h1 h2 h3 h4 h5 h6 ab hF hW hK a4 hG
 go_enter func5,ntmps5
 go_wp2_with fail
 generalize(w.alloc (.cells #[I J s,I J le,I J la,I J wi,I J ke,I J qu,.slice a n cap] 27))=X at*
 refine(ud K).mono ?_
 rintro e w1 ⟨c,p,hc,hf,rfl,f,Z⟩
 have Y:M w.1.size w w1:=(ud z).trans (Z.mono (ud z).size)
 have af:=zd f
 have ac:=zd Y
 have aj:xg 1:=by unfold xg;omega
 have ao:w.1.size<=X.1.size:=(ud z).size
 clear f Z Y K r0 r1 r2 r3 r4 r5 r6
 go_wp2_with fail
 go_loopw [6,7] (fun y _ wr=>∃(t:Nat) (m:MS) (ns:List Nm),t<=k/\y=I J t/\vC wr X.1.size p c 1 m ns t/\jK c m ns/\M w.1.size w wr) (fun y _ _=>k-(intOf y).toNat)
 case atStart=>exact⟨0,_,[],z4 _,rfl,ud af,jK.start c 0,ud ac⟩
 case round=>
  obtain⟨t,m,ns,aw,rfl,f,F,d⟩:=hrel
  have au:(k:Int)<=4398046511104:=by omega
  by_cases a5:t<k
  ·have aq:(t:Int)<k:=by omega
   obtain⟨b,r,an,j,a0⟩:=ud ae (by omega)
   subst an
   obtain⟨g0,g1,g2,g3⟩:=a0 t a5
   have a1:=ud HG t a5
   generalize G t=o at*
   obtain⟨kd,oa,ob,ov⟩:=o
   obtain⟨fa,fb,fv⟩:=a1
   dsimp only at g0 g1 g2 g3 fa fb fv
   have y0:=(d.cell (p:=⟨b,r+t*4,O⟩) j).trans g0
   have y1:=(d.cell (p:=⟨b,r+t*4+1,O⟩) j).trans g1
   have y2:=(d.cell (p:=⟨b,r+t*4+2,O⟩) j).trans g2
   have y3:=(d.cell (p:=⟨b,r+t*4+3,O⟩) j).trans g3
   have ax:=E j d.size
   have h:=zd (Qh f hc hf aj kd oa ob ov fa fb fv (by omega))
   have ad:=zd d
   obtain⟨s9,k9,am,ai,al,a9,a3,a7⟩:=f
   have u:=fun(m1 m':MS) (g:List Nm) (ha:yn c 1 m ns m1 g) (hb:yn c 1 m1 g m' g)=>zd (jK.acts hc hf a9 F (by omega) ha hb)
   clear a0 d g0 g1 g2 g3 ai a9 F al am a3 a7
   go_wp2_with fail
   refine(ud h).mono ?_
   rintro e V2 ⟨rfl,hP⟩
   obtain⟨m1,m',g,hA,U,W,v,ag,ah⟩:=hP
   have L:=u m1 m' g hA U
   have P:=zd W
   have l:=zd ((ud ad).trans (v.bel.mono ao))
   clear W v hA U ag ah h y0 y1 y2 y3
   obtain⟨s2,k2,aa,V,ak,a8,a2,a6⟩:=ud P
   have A:=zd (zbH V hc hf a8.ok (ud L) (by omega) false (fun e=>by cases e))
   rw[aa]at A
   clear V ak a8 a2 a6 aa u
   go_wp2_with fail
   refine(ud A).mono ?_
   rintro e V3 ⟨rfl,B⟩
   have Q:=zd ((ud P).later B)
   have H:=zd ((ud l).trans (B.mono (ud l).size))
   clear B A
   go_wp2_with fail
   go_roundw
   case rel=>exact⟨t+1,m',g,by omega,by go_num,ud Q,ud L,ud H⟩
   case measure=>simp[intOf];omega
  ·have ap:decide ((t:Int)<k)=false:=by simp;omega
   have l:=zd d
   clear f d F
   go_wp2_with fail
   go_ret
   exact⟨rfl,ud l⟩
end Go.Proofs.YtndhpgciopcncaaGreatDoor
