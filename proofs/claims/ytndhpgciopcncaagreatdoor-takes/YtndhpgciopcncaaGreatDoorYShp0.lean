import Derived.Shelf.Abstract
import Derived.Test.YtndhpgciopcncaaGreatDoorYMlz3
import Derived.Test.YtndhpgciopcncaaGreatDoorYSml0
import Derived.Test.YtndhpgciopcncaaGreatDoorYRefI
open Go.Value renaming int → I
open Go.IntKind renaming i64 → O
open Option renaming some → E
open Option renaming none → G
open Go renaming World → M
open Go.IntKind renaming i32 → C
open Go renaming Value → z1
open Go.RowKit renaming Below → z2
open Nat renaming lt_of_lt_of_le → z3
open Nat renaming le_refl → z4
open Go.RowKit.Below renaming refl → z5
set_option linter.unusedVariables false
set_option maxRecDepth 100000
set_option maxHeartbeats 8000000
open Go.Proofs.Tryz
namespace Go.Proofs.YtndhpgciopcncaaGreatDoor
open Go.ChangeMaps (setBlock)
open Go.RowKit Go.Maps Go.Shelf
def zjx(t:Tok):List z1:=[I O t.ep,I O t.num]
structure Shp where
 p:Nat
 i:Ids
 d:Nat
 ct:z1
 nv:z1
 kv:z1
 uv:z1
section
variable {w:M} {B:Nat} {s:Shp} {c:Cf} {ep:Int} {m:MS} {sn:Int} {ns:List Nm} {ks:List Tok} {us:List Int}
end
theorem SOk.tsk{c:Cf}{ep:Int}{m:MS}{nn:Nat}(h:SOk c ep m nn):∀p∈m.TL,zkr c m.now p.2:=fun p d=>by
 have b:=h.ok.tk p d
 have a:=h.ok.mem_inR b.mem
 exact⟨a.2.1,a.2.2.1,a.2.2.2,b.si⟩
theorem SOk.qn{c:Cf}{ep:Int}{m:MS}{nn:Nat}(h:SOk c ep m nn):∀q∈m.QL,q.1.num<=m.num:=fun q a=>(h.ok.leas q a).num.2
theorem SOk.epoch{c:Cf}{ep:Int}{m:MS}{nn:Nat}(h:SOk c ep m nn){t:Tok}(i:t∉tokL ep m.num.toNat):zS m.QL t=G:=by
 rw[xm]
 intro f
 obtain⟨q,b,rfl⟩:=List.mem_map.1 (show t∈m.QL.map (·.1)from f)
 have a:=(h.ok.leas q b).ep
 have d:=(h.ok.leas q b).num
 refine i (List.mem_map.2 ⟨(q.1.num-1).toNat,by simp;omega,?_⟩)
 obtain⟨⟨e,n⟩,g⟩:=q
 dsimp only at a d ⊢
 rw[a]
 congr 1
 omega
def Wt(L:LV)(s:Sg):Prop:=∃v,(s,v)∈L/\v.st=2
def Pub(L:LV)(s:Sg):Prop:=∃v,(s,v)∈L/\v.st=3
structure zhV(c:Cf)(now:Int)(L:LV)(ns:List Nm)(rl:Bool)(s:Sg):Prop where
 roll:rl=true->∀k:Nat,s.t=k->∀x∈ns,zt c s.t x=s->¬Wt L (zt c (c.F k) x)
 recl:rl=false->(s.wn+1)*c.wh s.t+c.keep s.t<=now/\∀x∈ns,zt c s.t x=s->∀k:Nat,k<c.n->c.F k=s.t->¬Wt L (zt c k x)
structure Zi(c:Cf)(m:MS)(ns:List Nm):Prop where
 tm:∀x∈ns,0<=x.tm/\x.tm<=m.now/\0<=x.se/\x.se<4/\ -2147483648<=x.val/\x.val<=2147483647
 keys:∀x∈ns,∀t:Int,-1<=t->t<c.n->zt c t x∈zl m.L\/zt c t x∈zo m.Gl
 has:∀s∈zl m.L,∃x∈ns,zt c s.t x=s
 gone:∀x∈ns,∀k:Nat,k<c.n->zt c (c.F k) x∈zo m.Gl->zt c k x∈zo m.Gl\/Pub m.L (zt c k x)
 over:∀s∈zo m.Gl,(s.wn+1)*c.wh s.t+c.keep s.t<=m.now
 cell:∀p∈m.L,p.2.st≠2->IsC (fun x=>zt c p.1.t x=p.1) ns p.2.cl
 tk:∀p∈m.TL,zhV c m.now m.L ns p.2.rl p.2.s
section
variable {c:Cf} {ep:Int} {m:MS} {ns:List Nm}
theorem kV{L:LV}(hn:(zl L).Nodup){s:Sg}{u v:SV}(h:(s,u)∈L)(k:(s,v)∈L):u=v:=by
 have b:zS L s=E u:=xu hn h
 have a:zS L s=E v:=xu hn k
 rw[b]at a;injection a
theorem vJ{L:LV}{p:Sg×SV}(h:p∈L):p.1∈zl L:=List.mem_map.2 ⟨p,h,rfl⟩
theorem Ku{L:LV}(hn:(zl L).Nodup){s:Sg}(h:Wt L s):s∈zl L/\(stL L s).st=2:=by
 obtain⟨v,hv,b⟩:=h
 have a:=vJ hv
 have:=zN a
 rw[kV hn this hv]
 exact⟨a,b⟩
theorem vt(c:Cf)(k:Nat):c.wh (k:Int)=c.W k:=by
 unfold Cf.wh zY
 rw[if_neg (by omega)];simp
theorem zhP(e:c.ok)(a:c.fits){x:Nm}(i:0<=x.tm){k:Nat}(b:k<c.n):x.tm/c.wh (c.F k)*c.wh (c.F k)/c.W k=x.tm/c.W k:=by
 obtain⟨q,g,f⟩:=a.quot k b
 have d:=a.down k b
 have h:=(e.wh d.1 (by omega)).1
 rw[f,Int.mul_comm (x.tm/c.wh (c.F k)),Int.mul_ediv_mul_of_pos _ _ (by omega),Int.ediv_ediv_of_nonneg (by omega)]
theorem zbp(b:c.ok)(d:c.fits){x:Nm}(e:0<=x.tm){k:Nat}(a:k<c.n):zt c k x∈yD c (zt c (c.F k) x):=by
 unfold yD YB
 rw[List.map_map]
 refine List.mem_map.2 ⟨k,List.mem_filter.2 ⟨by simpa using a,by simp[zt]⟩,?_⟩
 show(⟨(k:Int),x.se,x.tm/c.wh (c.F k)*c.wh (c.F k)/c.W k⟩:Sg)=zt c k x
 rw[zhP b d e a]
 unfold zt;rw[vt]
theorem yV(d:c.ok)(f:MOk c ep m){x:Nm}(e:m.now-c.la<=x.tm){t:Int}(a: -1<=t)(b:t<c.n):zt c t x∉zo m.Gl:=fun h=>jA d a b e (f.seg.goc _ h)
theorem VX(e:c.ok)(g:MOk c ep m){x:Nm}(f:m.now-c.la<=x.tm){t:Int}(a: -1<=t)(b:t<c.n):¬Pub m.L (zt c t x):=fun⟨v,hv,d⟩=>jA e a b f (g.seg.pubc _ hv d)
theorem J7{now:Int}:∀(a:List Sg) {T:List (Jk×Tsk)} {p:Jk×Tsk},p∈a.foldl (qH now) T->p∈T\/∃s∈a,p.2.rl=true/\p.2.s=s
 |[],T,p,h=> .inl h
 |y::a,T,p,h=>by
  rcases J7 a h with h|⟨s,b,h⟩
  ·unfold qH at h
   split at h
   ·exact .inl h
   ·rcases yc h with rfl|⟨h,_⟩
    ·exact .inr ⟨y,by simp,rfl,rfl⟩
    ·exact .inl h
  ·exact .inr ⟨s,by simp[b],h⟩
theorem J5{now:Int}:∀(a:List Sg) {T:List (Jk×Tsk)} {p:Jk×Tsk},p∈a.foldl (yd now) T->p∈T\/∃s∈a,p.2.rl=false/\p.2.s=s
 |[],T,p,h=> .inl h
 |y::a,T,p,h=>by
  rcases J5 a h with h|⟨s,b,h⟩
  ·unfold yd at h
   split at h
   ·exact .inl h
   ·rcases yc h with rfl|⟨h,_⟩
    ·exact .inr ⟨y,by simp,rfl,rfl⟩
    ·exact .inl h
  ·exact .inr ⟨s,by simp[b],h⟩
theorem Zi.post(r:c.ok)(F:c.fits)(a:yA c m.now m.L m.Gl)(h:Zi c m ns){j:List (Jk×Tsk)}(d:qD c m j):Zi c {m with TL:=j} ns:=by
 obtain⟨K,B,D,T,P,Q,rfl⟩:=d.to
 refine⟨h.tm,h.keys,h.has,h.gone,h.over,h.cell,fun p d=>?_⟩
 rcases J5 D d with d|⟨s,v,l,o⟩
 ·rcases J7 B d with d|⟨s,v,l,o⟩
  ·exact h.tk p d
  ·rw[l,o]
   refine⟨fun _ k t x z i w=>?_,fun e=>by cases e⟩
   obtain⟨g,f⟩:=(P s).1 v
   obtain⟨H,A⟩:=Ku a.nl w
   have u:k<c.n:=by
    have:=(a.inr _ (zN g)).2.2.1
    simp only at this
    omega
   have b:s∈zo K:=(T s).2 ⟨_,H,A,by
    have:=zbp r F (h.tm x z).1 u
    rw[<-t,i]at this
    exact this⟩
   unfold kJ at f
   simp only[Bool.and_eq_true,Option.isNone_iff_eq_none]at f
   exact xm.1 f.1.1 b
 ·rw[l,o]
  refine⟨fun e=>(by cases e),fun _=>?_⟩
  obtain⟨g,f⟩:=(Q s).1 v
  have b:=a.inr _ (zN g)
  unfold kI at f
  simp only[Bool.and_eq_true,Bool.not_eq_true',beq_eq_false_iff_ne,ne_eq,decide_eq_true_eq]at f
  obtain⟨⟨X,W⟩,J⟩:=f
  refine⟨W,fun x z i k t q w=>?_⟩
  obtain⟨H,A⟩:=Ku a.nl w
  have S:zt c k x∈yD c s:=by
   have:=zbp r F (h.tm x z).1 t
   rw[q,i]at this
   exact this
  unfold Xt at J
  have R:((kU c s).filter (fun x=>(stL m.L x.1).st==2)).length=0:=by
   have:=of_decide_eq_true (show decide ((((kU c s).filter (fun x=>(stL m.L x.1).st==2)).length:Int)=0)=true from by simpa using J)
   omega
  have U:=(vT r b (zt c k x)).2 S
  obtain⟨y,V,N⟩:=List.mem_map.1 U
  have:y∈(kU c s).filter (fun x=>(stL m.L x.1).st==2):=List.mem_filter.2 ⟨V,by rw[N];simpa using A⟩
  rw[List.eq_nil_of_length_eq_zero R]at this;simp at this
theorem YH{T:List (Jk×Tsk)}{k:Jk}{x:Tsk}{now:Int}(b:zS T k=E x){p:Jk×Tsk}(a:p∈qI T k (x.failed now)):∃q∈T,q.2.rl=p.2.rl/\q.2.s=p.2.s:=by
 rcases yc a with rfl|⟨a,_⟩
 ·exact⟨_,zA b,rfl,rfl⟩
 ·exact⟨p,a,rfl,rfl⟩
theorem zbi{now:Int}{TL:List (Jk×Tsk)}{QL:List (Tok×Lse)}{b:List (Jk×Tsk)}{Q1:List (Tok×Lse)}(h:JF now TL QL b Q1):∀p∈b,∃q∈TL,q.2.rl=p.2.rl/\q.2.s=p.2.s:=by
 induction h with
 |nil=>exact fun p a=>⟨p,a,rfl,rfl⟩
 |step l m n g k=>
  intro p a
  obtain⟨q,i,c,d⟩:=YH g a
  obtain⟨r,j,e,f⟩:=k q i
  exact⟨r,j,e.trans c,f.trans d⟩
theorem zhV.mono{now a:Int}{L:LV}{rl:Bool}{s:Sg}(h:zhV c now L ns rl s)(hn:now<=a):zhV c a L ns rl s:=
 ⟨h.roll,fun e=>⟨by have:=(h.recl e).1;omega,(h.recl e).2⟩⟩
theorem zhV.live{now:Int}{L g:LV}{rl:Bool}{s:Sg}(h:zhV c now L ns rl s)(i:∀y,Wt g y->Wt L y):zhV c now g ns rl s:=
 ⟨fun e k b x f d a=>h.roll e k b x f d (i _ a),fun e=>⟨(h.recl e).1,fun x f d k b j a=>(h.recl e).2 x f d k b j (i _ a)⟩⟩
theorem Zi.ticked(h:Zi c m ns){a:Int}(hn:m.now<=a){b:List (Jk×Tsk)}{Q1:List (Tok×Lse)}(j:∀p∈b,∃q∈m.TL,q.2.rl=p.2.rl/\q.2.s=p.2.s)(num:Int):Zi c {m with now:=a,num:=num,TL:=b,QL:=Q1} ns:=
 ⟨fun x k=>by have:=h.tm x k;exact⟨this.1,by show x.tm<=a;omega,this.2.2⟩,h.keys,h.has,h.gone,fun s i=>by have:=h.over s i;show _<=a;omega,h.cell,fun p f=>by
  obtain⟨q,g,d,e⟩:=j p f
  have:=(h.tk q g).mono hn
  rw[d,e]at this;exact this⟩
end
section
variable {c:Cf} {ep:Int} {m:MS} {ns:List Nm}
theorem KT{L:LV}{s:Sg}{v:SV}:(s,v)∈yL L s v:=by
 unfold yL
 by_cases h:s∈zl L
 ·rw[if_pos h]
  obtain⟨p,a,e⟩:=List.mem_map.1 (show s∈L.map (·.1)from h)
  exact List.mem_map.2 ⟨p,a,by rw[if_pos e]⟩
 ·rw[if_neg h];simp
theorem KU{L:LV}{s:Sg}{v:SV}{p:Sg×SV}(b:p∈L)(a:p.1≠s):p∈yL L s v:=by
 unfold yL
 by_cases h:s∈zl L
 ·rw[if_pos h]
  exact List.mem_map.2 ⟨p,b,by rw[if_neg a]⟩
 ·rw[if_neg h];simp[b]
theorem Zj{L:LV}{x:Nm}{p:Sg×SV}(a:p∈yH c L x):p=(xc c x,⟨1,qs x.val ((ku L (xc c x)).map (·.cl))⟩)\/(p∈L/\p.1≠xc c x)\/∃j:Nat,j<c.n/\p=(zt c (j:Int) x,⟨2,qC⟩)/\zt c (j:Int) x∉zl L:=by
 rcases vR x c.n _ a with a|⟨j,b,e,hn⟩
 ·rcases xS a with a|a
  ·exact .inl a
  ·exact .inr (.inl a)
 ·exact .inr (.inr ⟨j,b,e,fun d=>hn (xw.2 (.inl d))⟩)
theorem Kv{L:LV}{x:Nm}{p:Sg×SV}(b:p∈L)(a:p.1≠xc c x):p∈yH c L x:=kZ x c.n _ (KU b a)
theorem zdK{L:LV}{x:Nm}{s:Sg}(h:s∈zl L):s∈zl (yH c L x):=by
 have a:s∈zl (qE c L x):=by unfold qE;exact xw.2 (.inl h)
 obtain⟨p,b,e⟩:=List.mem_map.1 (show s∈(qE c L x).map (·.1)from a)
 subst e
 exact vJ (kZ x c.n _ b)
theorem zhW{L:LV}{x:Nm}{y:Sg}(h:Wt (yH c L x) y):Wt L y\/∃j:Nat,j<c.n/\y=zt c (j:Int) x/\y∉zl L:=by
 obtain⟨v,hv,d⟩:=h
 rcases Zj hv with e|⟨hv,_⟩|⟨j,f,e,hn⟩
 ·injection e with a b;subst b;simp at d
 ·exact .inl ⟨v,hv,d⟩
 ·injection e with a b;exact .inr ⟨j,f,a,by rw[a];exact hn⟩
theorem zai{L:LV}{x:Nm}(f:yA c m.now m.L m.Gl)(j:c.ok)(hv: -2147483648<=x.val/\x.val<=2147483647){P:Nm->Prop}[DecidablePred P](g:P x)
  (h:∀o,ku m.L (xc c x)=E o->IsC P ns o.cl) (i:ku m.L (xc c x)=G->∀y∈ns,¬P y):IsC P (ns++[x]) (qs x.val ((ku m.L (xc c x)).map (·.cl))):=by
 cases b:ku m.L (xc c x)with
 |none=>
  have:=(IsC.zero (i b)).add g
  have e:zhX qC x.val=qs x.val G:=by
   simp only[zhX,qC,qs,Int.zero_add,true_or,if_true]
   rw[show wrap64 x.val=x.val by unfold wrap64;omega]
  rw[e]at this
  exact this
 |some o=>
  obtain⟨a,k,l,n,p⟩:=MOk.rawAt f j b
  have:=(h o b).add g
  have e:zhX o.cl x.val=qs x.val (E o.cl):=by
   have d:¬o.cl.cnt=0:=by omega
   simp only[zhX,qs,d,false_or]
   rw[show wrap64 (o.cl.sum+x.val)=x.val+o.cl.sum by unfold wrap64;omega,Int.add_comm o.cl.cnt]
   congr 1
   ·by_cases a:o.cl.mn<x.val
    ·rw[if_pos a,if_neg (by omega)]
    ·rw[if_neg a];split<;>omega
   ·by_cases a:x.val<o.cl.mx
    ·rw[if_pos a,if_neg (by omega)]
    ·rw[if_neg a];split<;>omega
  rw[e]at this
  exact this
theorem Zi.added(D:c.ok)(Z:c.fits)(q:MOk c ep m)(h:Zi c m ns){x:Nm}(hs:0<=x.se/\x.se<4)(hx:0<=x.tm/\x.tm<=m.now)(U:m.now-c.la<=x.tm)(hv: -2147483648<=x.val/\x.val<=2147483647):
  Zi c {m with L:=yH c m.L x} (ns++[x]):=by
 have f:∀{y:Nm},y∈ns++[x]->y∈ns\/y=x:=fun a=>by
  rcases List.mem_append.1 a with a|a
  ·exact .inl a
  ·exact .inr (List.mem_singleton.1 a)
 have z:∀t:Int,-1<=t->t<c.n->zt c t x∉zo m.Gl:=fun t r w=>yV D q U r w
 have a0:=D.n1
 have H:∀y,Pub m.L y->Pub (yH c m.L x) y:=fun y ⟨v,J,N⟩=>⟨v,Kv J (fun e=>by
  have h4:=(q.seg.raw _ J (by rw[show y=xc c x from e];rfl)).1
  simp only at h4;omega),N⟩
 --no waiting segment of an elder number is new
 have K:∀y∈ns,∀t:Int,-1<=t->t<c.n->Wt (yH c m.L x) (zt c t y)->Wt m.L (zt c t y):=fun y a t r w B=>by
  rcases zhW B with B|⟨j,hj,e,hn⟩
  ·exact B
  ·exfalso
   rcases h.keys y a t r w with d|d
   ·exact hn d
   ·rw[e]at d;exact z j (by omega) (by omega) d
 have i:∀s:Sg,s∈zl m.L->c.clo m.now s->zt c s.t x≠s:=fun s d S e=>by
  have b:=q.seg.inr _ (zN d)
  exact jA D b.2.1 b.2.2.1 U (by rw[e];exact S)
 refine⟨fun y a=>?_,fun y a t r w=>?_,fun s W=>?_,fun y a k d hg=>?_,h.over,fun p g A=>?_,fun p g=>?_⟩
 ·rcases f a with a|rfl
  ·exact h.tm y a
  ·exact⟨hx.1,hx.2,hs.1,hs.2,hv⟩
 ·rcases f a with a|rfl
  ·exact(h.keys y a t r w).imp zdK id
  ·left
   by_cases X:t= -1
   ·subst X
    have r:xc c y∈zl (qE c m.L y):=by unfold qE;exact xw.2 (.inr rfl)
    obtain⟨p,g,e⟩:=List.mem_map.1 (show xc c y∈(qE c m.L y).map (·.1)from r)
    show xc c y∈_
    rw[<-e]
    exact vJ (kZ y c.n _ g)
   ·have:=Zk (c:=c) y c.n (qE c m.L y) t.toNat (by omega)
    rw[show((t.toNat:Nat):Int)=t by omega]at this
    exact this
 ·obtain⟨p,g,rfl⟩:=List.mem_map.1 (show s∈(yH c m.L x).map (·.1)from W)
  rcases Zj g with rfl|⟨g,_⟩|⟨j,hj,rfl,_⟩
  ·exact⟨x,by simp,rfl⟩
  ·obtain⟨y,a,e⟩:=h.has _ (vJ g)
   exact⟨y,by simp[a],e⟩
  ·exact⟨x,by simp,rfl⟩
 ·have P:=Z.down k d
  rcases f a with a|rfl
  ·exact(h.gone y a k d hg).imp id (H _)
  ·exact absurd hg (z _ P.1 (by omega))
 ·rcases Zj g with rfl|⟨g,V⟩|⟨j,hj,rfl,_⟩
  ·refine zai (L:=m.L) q.seg D hv rfl (fun o u=>?_) (fun u y a e=>?_)
   ·have F:=vu u
    have r:=(q.seg.raw _ F rfl).1
    exact h.cell _ F (by simp only at r ⊢;omega)
   ·have Y:zt c (-1) y=xc c x:=e
    rcases h.keys y a (-1) (by omega) (by omega)with d|d
    ·exact ya.1 u (Y▸d)
    ·exact z (-1) (by omega) (by omega) (show xc c x∈_ from Y▸d)
  ·refine(h.cell p g A).skip (fun e=>?_)
   have b:=q.seg.inr p g
   by_cases X:p.1.t= -1
   ·exact V (by rw[<-e,X];rfl)
   ·rcases q.seg.tier p g (by have:=b.2.1;omega)with w|N
    ·exact A w
    ·exact VX D q U b.2.1 b.2.2.1 ⟨p.2,by rw[e];exact g,N⟩
  ·exact absurd rfl A
 ·have u:=q.tk p g
  have b:=q.seg.inr _ (zN u.mem)
  have R:=h.tk p g
  refine⟨fun e k d y a l B=>?_,fun e=>⟨(R.recl e).1,fun y a l k d P B=>?_⟩⟩
  ·have T:k<c.n:=by have:=b.2.2.1;simp only at this;omega
   have Q:=Z.down k T
   rcases f a with a|rfl
   ·exact R.roll e k d y a l (K y a _ Q.1 (by omega) B)
   ·exact i _ u.mem u.clo l
  ·rcases f a with a|rfl
   ·exact(R.recl e).2 y a l k d P (K y a _ (by omega) (by omega) B)
   ·exact i _ u.mem u.clo l
theorem zjs{q y v:Int}(e:1<=q):y/q=v↔v*q<=y/\y<v*q+q:=by
 constructor
 ·intro h
  subst h
  have a:=Int.emod_add_mul_ediv y q
  have b:=Int.emod_nonneg y (show q≠0 by omega)
  have c:=Int.emod_lt_of_pos y (show 0<q by omega)
  rw[Int.mul_comm]at a
  omega
 ·rintro⟨a,b⟩
  have c:v<=y/q:=(Int.le_ediv_iff_mul_le (by omega)).2 a
  have d:y/q<v+1:=(Int.ediv_lt_iff_lt_mul (by omega)).2 (by rw[Int.add_mul,Int.one_mul];exact b)
  omega
theorem Zi.rolled(hc:c.ok)(hf:c.fits)(T:MOk c ep m)(h:Zi c m ns)(N:(ns.length:Int)<9223372036854775808){j:Jk}{s:Sg}{si tc rest:Int}{k:Nat}(hx:zS m.TL j=E ⟨true,s,si,tc,rest⟩)(K:s.t=k)(Q1:List (Tok×Lse)):
  Zi c {m with L:=yL m.L s ⟨3,qc (vo c m.L s.se s.wn k)⟩,TL:=xn m.TL j,QL:=Q1} ns:=by
 have ho:=T.tk _ (zA hx)
 have hR:=(h.tk _ (zA hx)).roll rfl
 have g:s∈zl m.L:=ho.mem
 have V:=T.seg.inr _ (zN g)
 have Z:(stL m.L s).st=2:=ho.roll rfl
 have A:k<c.n:=by have:=V.2.2.1;simp only at this;omega
 have hF:=hf.down k A
 have a2:=(hc.wh hF.1 (show c.F k<c.n by omega)).1
 obtain⟨q,Y,hq⟩:=hf.quot k A
 have B:zbB c k=q:=by
  unfold zbB
  rw[vt,hq,Int.mul_ediv_cancel_left _ (by omega)]
 have o:∀x∈ns,(x.se=s.se/\s.wn*q<=x.tm/c.wh (c.F k)/\x.tm/c.wh (c.F k)<s.wn*q+q)↔zt c s.t x=s:=fun x b=>by
  have h0:=(h.tm x b).1
  rw[<-zjs Y,Int.ediv_ediv_of_nonneg (by omega),<-hq,K]
  obtain⟨st,ss,sw⟩:=s
  simp only at K ⊢
  unfold zt
  rw[vt]
  subst K
  simp only[Sg.mk.injEq,true_and]
 have l:¬Pub m.L s:=fun⟨v,hv,h3⟩=>by rw[kV T.seg.nl (zN g) hv]at Z;omega
 have u:IsC (fun x=>zt c s.t x=s) ns (qc (vo c m.L s.se s.wn k)):=by
  unfold vo
  rw[B]
  have r:((q.toNat:Nat):Int)=q:=by omega
  have:=(Jn (L:=m.L) (wd:=c.wh (c.F k)) (f:=c.F k) (se:=s.se) (a:=s.wn*q) N q.toNat (fun i hi=>?_)).1
  ·rw[r]at this
   exact this.congr o
  ·have a1:(i:Int)<q:=by omega
   have d:∀x:Nm,(x.se=s.se/\x.tm/c.wh (c.F k)=s.wn*q+i)↔zt c (c.F k) x=⟨c.F k,s.se,s.wn*q+i⟩:=fun x=>by
    unfold zt;simp only[Sg.mk.injEq,true_and]
   have S:∀x∈ns,(x.se=s.se/\x.tm/c.wh (c.F k)=s.wn*q+i)->zt c s.t x=s:=fun x b e=>(o x b).1 ⟨e.1,by omega,by omega⟩
   refine⟨fun v hv=>?_,fun hn x b e=>?_⟩
   ·have D:=vu hv
    obtain⟨y,H,e⟩:=h.has _ (vJ D)
    have U:=(d y).2 e
    have X:v.st≠2:=fun J=>hR k K y H (S y H U) ⟨v,by rw[(d y).1 U];exact D,J⟩
    have hC:=h.cell _ D X
    refine⟨hC.congr (fun x _=>(d x).symm),fun h0=>qi.1 h0 y H U⟩
   ·have e1:=(d x).1 e
    rcases h.keys x b (c.F k) hF.1 (by omega)with z|z
    ·exact ya.1 hn (e1▸z)
    ·have hs:=S x b e
     have R:zt c (k:Int) x=s:=by rw[<-K];exact hs
     rcases h.gone x b k A z with w|w
     ·rw[R]at w;exact T.seg.disj _ (zN g) w
     ·rw[R]at w;exact l w
 have a0:∀y,Wt (yL m.L s ⟨3,qc (vo c m.L s.se s.wn k)⟩) y->Wt m.L y:=fun y ⟨v,hv,J⟩=>by
  rcases xS hv with e|⟨hv,_⟩
  ·injection e with e1 e2;subst e2;simp at J
  ·exact⟨v,hv,J⟩
 refine⟨h.tm,fun x b t h1 J=>(h.keys x b t h1 J).imp (fun z=>xw.2 (.inl z)) id,fun y H=>?_,fun x b k' W w=>?_,h.over,fun p P Q=>?_,fun p P=>((h.tk p (zL.1 P).1).live a0)⟩
 ·rcases xw.1 H with H|rfl
  ·exact h.has y H
  ·exact h.has _ g
 ·rcases h.gone x b k' W w with z|⟨v,hv,h3⟩
  ·exact .inl z
  ·right
   by_cases e:zt c (k':Int) x=s
   ·rw[e];exact⟨_,KT,rfl⟩
   ·exact⟨v,KU hv e,h3⟩
 ·rcases xS P with rfl|⟨P,_⟩
  ·exact u
  ·exact h.cell p P Q
theorem Zi.reclaimed(P:c.ok)(Q:c.fits)(D:MOk c ep m)(h:Zi c m ns){j:Jk}{s:Sg}{si tc rest:Int}(J:zS m.TL j=E ⟨false,s,si,tc,rest⟩)(Q1:List (Tok×Lse)):
  Zi c {m with L:=xn m.L s,Gl:=qI m.Gl s (),TL:=xn m.TL j,QL:=Q1} ns:=by
 have N:=D.tk _ (zA J)
 have A:=(h.tk _ (zA J)).recl rfl
 have H:s∈zl m.L:=N.mem
 have n:∀y,y∈zl m.L->y≠s->y∈zl (xn m.L s):=fun y f u=>by
  obtain⟨p,d,rfl⟩:=List.mem_map.1 (show y∈m.L.map (·.1)from f)
  exact vJ (zL.2 ⟨d,u⟩)
 have z:∀y,Wt (xn m.L s) y->Wt m.L y:=fun y ⟨v,hv,i⟩=>⟨v,(zL.1 hv).1,i⟩
 refine⟨h.tm,fun x b t K i=>?_,fun y f=>?_,fun x b k B g=>?_,fun y f=>?_,fun p d q=>h.cell p (zL.1 d).1 q,fun p d=>((h.tk p (zL.1 d).1).live z)⟩
 ·by_cases e:zt c t x=s
  ·exact .inr (xg.2 (.inr e))
  ·exact(h.keys x b t K i).imp (fun a=>n _ a e) (fun a=>xg.2 (.inl a))
 ·obtain⟨p,d,rfl⟩:=List.mem_map.1 (show y∈(xn m.L s).map (·.1)from f)
  exact h.has _ (vJ (zL.1 d).1)
 ·by_cases e:zt c (k:Int) x=s
  ·exact .inl (xg.2 (.inr e))
  ·have o:Pub m.L (zt c (k:Int) x)->Pub (xn m.L s) (zt c (k:Int) x):=fun⟨v,hv,r⟩=>⟨v,zL.2 ⟨hv,e⟩,r⟩
   rcases xg.1 g with g|g
   ·exact(h.gone x b k B g).imp (fun a=>xg.2 (.inl a)) o
   ·have l:c.F k=s.t:=by rw[<-g];rfl
    have w:=A.2 x b (by rw[<-l];exact g) k B l
    rcases h.keys x b k (by omega) (by omega)with a|a
    ·right
     refine o ⟨_,zN a,?_⟩
     rcases D.seg.tier _ (zN a) (by show(0:Int)<=k;omega)with i|r
     ·exact absurd ⟨_,zN a,i⟩ w
     ·exact r
    ·exact .inl (xg.2 (.inl a))
 ·rcases xg.1 f with f|rfl
  ·exact h.over y f
  ·exact A.1
theorem Zi.act(e:c.ok)(f:c.fits){m':MS}{r:List Nm}(j:SOk c ep m ns.length)(h:Zi c m ns)(o:(ns.length:Int)<9223372036854775808)(D:Yp c ep m ns m' r):Zi c m' r:=by
 cases D with
 |same=>exact h
 |added x d z A B K=>exact h.added e f j.ok d z A B
 |ticked n w l v hn q y J a=>
  have d:Zi c {m with now:=m.now+n,TL:=w,QL:=v} ns:=h.ticked (by omega) (zbi y) m.num
  have b:yA c (m.now+n) m.L m.Gl:=(j.tick e f hn q y J a).1.ok.seg
  exact d.post e f b a
 |taken p slot a F=>exact h.ticked (Int.le_refl _) (fun p a=>⟨p,a,rfl,rfl⟩) _
 |failed t g x u i=>exact h.ticked (Int.le_refl _) (fun p a=>YH i a) m.num
 |rolled t g s si tc rest k l u i H a=>
  have d:=h.rolled e f j.ok o i H (xn m.QL t)
  have b:=(j.ok.rolled u i rfl (qc (vo c m.L s.se s.wn k))).1.seg
  exact d.post e f b a
 |reclaimed t g s si tc rest l u i a=>
  have d:=h.reclaimed e f j.ok i (xn m.QL t)
  have b:=(j.ok.reclaimed u i rfl).1.seg
  exact d.post e f b a
theorem Zi.start(c:Cf)(now:Int):Zi c ⟨now,[],[],0,[],[]⟩ []:=
 ⟨fun x a=>(by cases a),fun x a=>(by cases a),fun s d=>(by cases d),fun x a=>(by cases a),fun s d=>(by cases d),fun p b=>(by cases b),fun p b=>(by cases b)⟩
inductive Told (c:Cf) (m:MS) (ns:List Nm) (x:Nm) (t:Int) (q:Cl×Int):Prop
 |opn (h1:¬c.clo m.now (zt c t x)) (h2:q=(qC,9))
 |ok (h1:c.clo m.now (zt c t x)) (h2:q.2=0) (h3:IsC (fun y=>zt c t y=zt c t x) ns q.1)
 |wait (h1:c.clo m.now (zt c t x)) (h2:q=(qC,11)) (h3:0<=t)
 |gone (h1:c.clo m.now (zt c t x)) (h2:q=(qC,12)) (h3:((zt c t x).wn+1)*c.wh t+c.keep t<=m.now) (h4:∀k:Nat,k<c.n->c.F k=t->(qk c m.now m.Gl m.L k x.se (x.tm/c.wh k)).2=0\/(qk c m.now m.Gl m.L k x.se (x.tm/c.wh k)).2=12)
theorem Vh{Gl:List (Sg×Unit)}{L:LV}{s:Sg}(h:s∈zo Gl):(stG Gl L s).st=4:=by
 unfold stG
 cases a:zS Gl s with
 |none=>exact absurd h (xm.1 a)
 |some u=>rfl
theorem Qa{Gl:List (Sg×Unit)}{L:LV}{s:Sg}(h:s∉zo Gl):stG Gl L s=stL L s:=by
 unfold stG
 rw[xm.2 h]
theorem Zi.told(F:c.ok)(H:c.fits)(i:MOk c ep m)(h:Zi c m ns){x:Nm}(w:x∈ns){t:Int}(y: -1<=t)(z:t<c.n):Told c m ns x t (qk c m.now m.Gl m.L t x.se (x.tm/c.wh t)):=by
 by_cases d:c.clo m.now (zt c t x)
 ·have a:=d
  unfold Cf.clo at d
  have g:qk c m.now m.Gl m.L t x.se (x.tm/c.wh t)=qA (stG m.Gl m.L (zt c t x)):=by
   unfold qk
   rw[if_neg (by simp only[zt]at d;omega)]
   rfl
  by_cases l:zt c t x∈zo m.Gl
  ·have A:=Vh (L:=m.L) l
   refine .gone a (by rw[g];unfold qA;rw[A];simp) (h.over _ l) (fun k q B=>?_)
   have o:=h.gone x w k q (by rw[B];exact l)
   have j:c.clo m.now (zt c (k:Int) x):=by
    rcases o with u|⟨v,hv,p⟩
    ·exact i.seg.goc _ u
    ·exact i.seg.pubc _ hv p
   have s:qk c m.now m.Gl m.L k x.se (x.tm/c.wh k)=qA (stG m.Gl m.L (zt c k x)):=by
    unfold qk
    unfold Cf.clo at j
    rw[if_neg (by simp only[zt]at j;omega)]
    rfl
   rw[s]
   rcases o with u|⟨v,hv,p⟩
   ·right;unfold qA;rw[Vh u];simp
   ·left
    have r:zt c (k:Int) x∉zo m.Gl:=i.seg.disj _ hv
    have:=zN (vJ hv)
    rw[Qa r,kV i.seg.nl this hv]
    unfold qA;rw[p];simp
  ·have q:zt c t x∈zl m.L:=(h.keys x w t y z).resolve_right l
   have b:=zN q
   rw[Qa l]at g
   by_cases D:t= -1
   ·have f:=(i.seg.raw _ b (by rw[D];rfl)).1
    simp only at f
    have e:qA (stL m.L (zt c t x))=((stL m.L (zt c t x)).cl,0):=by unfold qA;rw[f];simp
    refine .ok a (by rw[g,e]) ?_
    rw[g,e]
    exact h.cell _ b (by simp only;omega)
   ·rcases i.seg.tier _ b (by show 0<=t;omega)with f|f
    ·simp only at f
     exact .wait a (by rw[g];unfold qA;rw[f];simp) (by omega)
    ·simp only at f
     have e:qA (stL m.L (zt c t x))=((stL m.L (zt c t x)).cl,0):=by unfold qA;rw[f];simp
     refine .ok a (by rw[g,e]) ?_
     rw[g,e]
     exact h.cell _ b (by simp only;omega)
 ·refine .opn d ?_
  unfold Cf.clo at d
  unfold qk
  rw[if_pos (by simp only[zt]at d;omega)]
end
structure zaY(c:Cf)(m:MS)(r:RM):Prop where
 hc:r.c=c
 now:r.now=m.now
 gone:∀s,vv s r.gone=true↔s∈zo m.Gl
 pub:∀s,vv s r.pub=true↔Pub m.L s\/(0<=s.t/\s∈zo m.Gl)
 inv:Zi c m r.nu
section
variable {c:Cf} {ep:Int} {m:MS} {r:RM}
theorem zaY.there(h:zaY c m r){s:Sg}(d:s∈zE r.c r.nu): -1<=s.t/\s.t<c.n/\(s∈zl m.L\/s∈zo m.Gl):=by
 rw[h.hc]at d
 obtain⟨a,b,x,f,e⟩:=yv.1 d
 refine⟨a,b,?_⟩
 have:=h.inv.keys x f s.t a b
 rwa[<-e]at this
theorem zaY.seg(h:zaY c m r){s:Sg}(a: -1<=s.t/\s.t<c.n)(b:s∈zl m.L):s∈zE r.c r.nu:=by
 rw[h.hc,yv]
 obtain⟨x,d,e⟩:=h.inv.has s b
 exact⟨a.1,a.2,x,d,e.symm⟩
theorem zaY.wt(h:zaY c m r)(b:MOk c ep m){s:Sg}(l:s∈zE r.c r.nu)(j:0<=s.t):Wt m.L s↔(vv s r.pub=false/\vv s r.gone=false):=by
 obtain⟨p,q,k⟩:=h.there l
 constructor
 ·intro d
  obtain⟨f,n⟩:=Ku b.seg.nl d
  have a:s∉zo m.Gl:=by
   obtain⟨v,hv,-⟩:=d
   exact b.seg.disj _ hv
  refine⟨?_,?_⟩
  ·rw[Bool.eq_false_iff,ne_eq,h.pub]
   rintro(⟨v,hv,e⟩|⟨-,e⟩)
   ·obtain⟨u,o,i⟩:=d
    have:=kV b.seg.nl o hv
    rw[this]at i;omega
   ·exact a e
  ·rw[Bool.eq_false_iff,ne_eq,h.gone];exact a
 ·rintro⟨g,a⟩
  rw[Bool.eq_false_iff,ne_eq,h.pub]at g
  rw[Bool.eq_false_iff,ne_eq,h.gone]at a
  have f:=k.resolve_right a
  have hv:=zN f
  rcases b.seg.tier _ hv j with e|e
  ·exact⟨_,hv,e⟩
  ·exact absurd (.inl ⟨_,hv,e⟩) g
end
attribute [local go_sem] Oper.semAt_some
theorem zcx(T:ByteArray)(g:T.size=0)(b:Nat)(w:M)(d:w.cell? ⟨b,0,G⟩=E (.string T))(c:b<w.1.size)(Kp:M->M->Prop)(encs:ByteArray->Array z1)(m:Nat):
  Yl Fence.wide 6 prog 202 #[.pointer (E ⟨b,0,G⟩)] encs Kp (fun xs=>xs=[]) (fun _=>False) 0 m w:=by
 intro l J k W a q o f h e
 have n:=(a.cell (p:=⟨b,0,G⟩) c).trans d
 have i:=z3 c a.size
 have j:decide ((0:Int)<(T.size:Int))=false:=by rw[g];rfl
 clear a d c h
 show CallsIn Fence.wide 6 prog 202 #[.func (.yield l) #[] #[],.pointer (E ⟨b,0,G⟩)] W _
 refine callsIn_of_wp func202 rfl trivial ?_ rfl
 simp only[ntmps202,List.size_toArray,List.length_cons,List.length_nil,Nat.reduceAdd,Nat.reduceSub,Array.replicate_succ,Array.replicate_zero,List.push_toArray,List.append_toArray,List.nil_append,List.cons_append]
 gi_wp2
 gi_loopw [] (fun wr=>wr=W) (fun _=>0)
 case atStart=>rfl
 case round=>
  subst hrel
  gi_wp2
  go_end0
  exact⟨⟨_,rfl⟩,.inl ⟨[],rfl,e⟩⟩
theorem zfQ:∀args w,(callFunc 202 args).run prog w=.ok (.enter 202 args) w:=enters_of func202 (by kernel_rfl) rfl
theorem ziR{w:M}{x b:Nat}(T:ByteArray)(P:T.size=0)(r:w.1[b]?=E (.cells #[.string T] 9 (0,0))):
  Calls prog 71 #[.pointer (E ⟨x,0,G⟩),.func (.func 202) #[] #[.pointer (E ⟨b,0,G⟩)]] w fun e w'=>e=.returned (.tuple #[])/\z2 w.1.size w w':=by
 have a:z2 w.1.size w (w.alloc (.cells #[.pointer (E ⟨x,0,G⟩)] 38)):=(z5 _ _).alloc (z4 _) _
 have m:=(a.block _ (zb r)).trans r
 have h:=zd a
 have i:=zd m
 clear r a m
 refine(callsIn_wide (n:=7)).1 ?_
 refine callsIn_of_wp_marks func71 rfl trivial ?_ rfl
 simp only[ntmps71,List.size_toArray,List.length_cons,List.length_nil,Nat.reduceAdd,Nat.reduceSub,Array.replicate_succ,Array.replicate_zero,List.push_toArray,List.append_toArray,List.nil_append,List.cons_append]
 refine wpIn_wide.2 ?_
 go_wp2_with fail
 generalize(w.alloc (.cells #[.pointer (E ⟨x,0,G⟩)] 38))=X at*
 obtain⟨t,-⟩:=zc (ud i)
 refine(wpIn_wide (n:=7)).1 ?_
 refine yM (F:=Fence.wide) (n:=7) rfl (by omega) (gf:=202) (lb:=#[.pointer (E ⟨b,0,G⟩)]) rfl trivial zfQ (zcx T P b X t (zb (ud i)) (fun _ _=>True) (fun x:ByteArray=>#[.string x]) 0) (Nat.zero_le _) (fun _ _=>trivial) (fun _ _ _ _ _ _=>trivial) (z5 _ _) (fun _=>rfl)
  (fun f W=>z2 X.1.size X W) (fun _ _ _=>False)
  (fun s A B row g o J=>g.trans ⟨o.os,o.tape,o.output,o.size,fun k R=>o.block k (z3 R g.size) (fun e=>absurd (J k e.symm).1 (by omega))⟩)
  (fun _ _ _ _ _ g _ _=>g)
  (z5 _ _)
  (fun _ _ _=>True) (fun _ _ _ _ _ _ g _ _=>g) ?assign ?body ?done ?stop
 case assign=>
  rintro l f y W K d H
  have L:=zd H
  clear H
  gi_wp2
  exact ud L _ _ (zw (z5 _ _)) trivial d trivial
 case body=>
  rintro l f y U W Y J d _ u
  exact absurd u (Nat.not_lt_zero _)
 case done=>
  rintro D xs W N _ d j
  have q:=zd j
  have p:=zd d
  clear d j
  gi_wp2
  have d:=ud p
  have v:=(ud h).size
  refine⟨by simp,.inl ⟨_,_,rfl,run_takeDeferred (ud q),?_⟩⟩
  have S:zk (fun k=>k=D) W (W.putObj D (.deferred G)):=(zk.refl (fun k=>k=D) W).grown (grownBy_putObj' W D (.deferred G)) (fun k e _=>by cases e;rfl)
  have z:z2 w.1.size w W:=(ud h).trans (d.mono v)
  exact⟨_,results_none rfl _ _ _,rfl,z.trans (S.below z.size (fun k e=>by have V:k=D:=e;omega))⟩
 case stop=>
  rintro D c f W N Q
  exact Q.elim
theorem zfb(c:Cf)(T:ByteArray)(d:T.size=0)(A:Ids->M->Prop):zaX c T ms0 A:=fun W i ep q b h f hn _=>
 (ziR T d f).mono fun e w' ⟨g,a⟩=>⟨g,h.later a,Kx.below a h.dlt⟩
theorem zau{c:Cf}{m:MS}{a:List (Jk×Tsk)}(h:qD c m a)(f:m.L=[])(l:m.TL=[]):a=[]:=by
 obtain⟨n,d,e,o,j,k,rfl⟩:=h.to
 have g:d=[]:=List.eq_nil_iff_forall_not_mem.2 (fun s b=>by have:=((j s).1 b).1;rw[f]at this;simp[zl]at this)
 have i:e=[]:=List.eq_nil_iff_forall_not_mem.2 (fun s b=>by have:=((k s).1 b).1;rw[f]at this;simp[zl]at this)
 rw[g,i,l];rfl
theorem zv.zero{T e:TypeId}{B:Nat}{w:M}{p:Nat}{S:DS}{fs:z1}(h:zv T e B w p S fs):zv T e 0 w p S fs:=⟨h.head,Nat.zero_le _,Kj h.row⟩
theorem zfa:(xT 0 []).size<=100:=by rw[ZJ];have:=ZK (now:=0) (xs:=[]) (by unfold xR;omega) (by simp);simp at this;omega
theorem zeT(c:Cf)(r:c.ok)(Q:c.fits)(S:xt c.s c.le c.la c.wi c.ke c.qu c.n c.F c.W c.K=true)(a:Option Addr)(cap B p:Nat)(fs:z1)(w:M)(X:B<=w.1.size)(N:zv 111 113 B w p ZE fs)(m:∀w',zk (foot p fs) w w'->TS w' a c.n c.F c.W c.K)(f:XN w)(l:∀k,foot p fs k->k≠ZV):
  Calls prog 29 #[.agg #[I O c.s,I O c.le,I O c.la,I O c.wi,I O c.ke,I O c.qu,.slice a c.n cap],.pointer (E ⟨p,0,G⟩)] w fun e w'=>∃i:Ids,i.d=p/\e=.returned (.tuple #[.pointer (E ⟨i.x,0,G⟩),I O 0])/\zB w' i c 1 ⟨0,[],[],0,[],[]⟩/\zk (foot p fs) w w'/\∀k,zT w' i k->foot p fs k\/w.1.size<=k:=by
 obtain⟨g,v,y⟩:=zia
 have L:((yN (Ym ZE) yk).extract 0 (zhE (yN (Ym ZE) yk))).size=0:=by rw[g,zhf];simp[ByteArray.size]
 have j:DOk ZE 10:=⟨by simp[ZE],by simp[ZE],by simp[ZE],by simp[ZE]⟩
 refine(zkc c r S a cap p ZE fs w N.zero 10 (by omega) j v m f l ms0 (fun _ _=>True) (fun _ _ _ _=>trivial) (zfb c _ L _) ⟨by decide,by decide⟩ (by intro x o;cases o) (by decide) (by decide) (by intro p h;cases h) (by decide) (fun t h=>by rw[g];exact(zfg _ _).2.1)).mono ?_
 rintro e w' ⟨i,t,u,R,P,h,q,J,H,D⟩
 have z:t=[]:=h.eq_nil
 have A:=zau J rfl rfl
 subst z
 subst A
 obtain⟨U,Y,V⟩:=zfg 1 (xT 0 [])
 rw[y]at q
 have b:zbL (Ym ZE) (xT 0 []) 0=(xT 0 []).size+1:=by unfold zbL;rw[g,V];rfl
 have T:=zfa
 refine⟨i,R,P,⟨_,xT 0 []++nl,[],q,rfl,?_,by omega,?_,?_,.start _ _ _ Q (SOk.new r) (by intro x o;cases o) (fun _=>⟨rfl,rfl,rfl⟩)⟩,H,D⟩
 ·show zdj (Ym ZE) (xT 0 [])=_;rw[g,U];rfl
 ·show 0<=zbL (Ym ZE) (xT 0 []) 0/\zbL (Ym ZE) (xT 0 []) 0<=100000000000;rw[b];omega
 ·show((xT 0 []++nl).size:Int)<=2*zbL (Ym ZE) (xT 0 []) 0+4096;rw[b,QR];omega
section
variable {c:Cf} {ep:Int} {m:MS} {r:RM}
theorem KP{s x:Sg}(o:0<=x.t)(p:x.t<c.n):onB c x s=true↔x∈yD c s:=by
 obtain⟨k,d⟩:∃k:Nat,x.t=k:=⟨x.t.toNat,by omega⟩
 have g:k<c.n:=by omega
 have j:c.wh x.t=c.W k:=by rw[d,vt]
 unfold onB yD YB
 rw[List.map_map,List.mem_map]
 constructor
 ·intro h
  split at h
  ·cases h
  ·rename_i hno
   simp only[not_or,ne_eq,Classical.not_not]at hno
   obtain⟨-,b,a⟩:=hno
   have e:s.wn*c.wh s.t/c.wh x.t=x.wn:=by simpa using h
   refine⟨k,List.mem_filter.2 ⟨by simpa using g,?_⟩,?_⟩
   ·rw[d,Int.toNat_natCast]at b
    simpa using b
   ·obtain⟨t,se,wn⟩:=x
    simp only at d a e j ⊢
    show(⟨(k:Int),s.se,s.wn*c.wh s.t/c.W k⟩:Sg)=⟨t,se,wn⟩
    rw[<-j,e,d,a]
 ·rintro⟨i,l,rfl⟩
  obtain⟨m,f⟩:=List.mem_filter.1 l
  have b:c.F i=s.t:=by simpa using f
  simp only[Function.comp]at*
  rw[if_neg]
  ·rw[vt];simp
  ·rintro(h|h|h)
   ·omega
   ·exact h (by rw[Int.toNat_natCast];exact b)
   ·exact h rfl
theorem Zx(g:c.ok){L:LV}{k:Sg}(a:inR c k):Xt c L k=true↔∀x∈yD c k,(stL L x).st≠2:=by
 unfold Xt
 constructor
 ·intro h x l b
  obtain⟨y,d,rfl⟩:=List.mem_map.1 ((vT g a x).2 l)
  have i:((kU c k).filter (fun x=>(stL L x.1).st==2)).length=0:=by
   have:(((kU c k).filter (fun x=>(stL L x.1).st==2)).length:Int)=0:=by simpa using h
   omega
  have f:y∈(kU c k).filter (fun x=>(stL L x.1).st==2):=List.mem_filter.2 ⟨d,by simpa using b⟩
  rw[List.length_eq_zero_iff.1 i]at f
  cases f
 ·intro h
  have j:((kU c k).filter (fun y=>(stL L y.1).st==2))=[]:=by
   rw[List.filter_eq_nil_iff]
   intro y d e
   exact h y.1 ((vT g a y.1).1 (List.mem_map.2 ⟨y,d,rfl⟩)) (by simpa using e)
  rw[j];rfl
end
section
variable {c:Cf} {ep:Int} {m:MS} {r:RM}
theorem Vi{L:LV}{x:Sg}(h:(stL L x).st=2):x∈zl L:=by
 apply Classical.byContradiction
 intro hn
 have:stL L x=⟨0,qC⟩:=by unfold stL;rw[ya.2 hn];rfl
 rw[this]at h;simp at h
theorem zjO{s x:Sg}(h:x∈yD c s):0<=x.t/\x.t<c.n:=by
 unfold yD YB at h
 rw[List.map_map]at h
 obtain⟨j,a,rfl⟩:=List.mem_map.1 h
 have:=(List.mem_filter.1 a).1
 simp at this
 show 0<=(j:Int)/\(j:Int)<c.n
 omega
theorem zdb(H:c.ok)(g:MOk c ep m)(h:zaY c m r){s:Sg}(J:s∈zE r.c r.nu):qJ r s (zE r.c r.nu)=true↔s∈zl m.L/\kI c m.L m.now s=true:=by
 obtain⟨N,P,F⟩:=h.there J
 unfold qJ qF kI
 rw[h.hc,h.now]at*
 simp only[Bool.and_eq_true,Bool.not_eq_true',decide_eq_false_iff_not,Bool.and_eq_false_iff,List.all_eq_true,beq_eq_false_iff_ne,decide_eq_true_eq,Bool.not_eq_false',ne_eq]
 have d:s∈zl m.L->((∀x∈zE c r.nu,ZY r s x=false)↔Xt c m.L s=true):=fun f=>by
  have y:=g.seg.inr _ (zN f)
  rw[Zx H y]
  constructor
  ·intro w x n a
   have b:=zjO n
   have o:x∈zE c r.nu:=by have:=h.seg ⟨by omega,b.2⟩ (Vi a);rwa[h.hc]at this
   have K:Wt m.L x:=⟨_,zN (Vi a),a⟩
   have k:=(h.wt g (by rw[h.hc];exact o) b.1).1 K
   have:=w x o
   unfold ZY at this
   rw[h.hc,(KP b.1 b.2).2 n,k.1,k.2]at this
   cases this
  ·intro w x n
   cases i:ZY r s x with
   |false=>rfl
   |true=>
    unfold ZY at i
    simp only[Bool.and_eq_true,Bool.not_eq_true']at i
    obtain⟨⟨j,B⟩,u⟩:=i
    rw[h.hc]at j
    obtain⟨Q,t2,-⟩:=h.there (s:=x) (by rw[h.hc];exact n)
    have l:0<=x.t:=by
     apply Classical.byContradiction
     intro hn
     rw[on_1 (by omega)]at j;cases j
    obtain⟨-,a⟩:=Ku g.seg.nl ((h.wt g (by rw[h.hc];exact n) l).2 ⟨B,u⟩)
    exact absurd a (w x ((KP l t2).1 j))
 constructor
 ·rintro⟨⟨⟨A,p⟩,a3⟩,a4⟩
  have q:s∉zo m.Gl:=fun e=>by rw[(h.gone s).2 e]at A;cases A
  have f:=F.resolve_right q
  refine⟨f,⟨fun a=>?_,?_⟩,(d f).1 a4⟩
  ·have hv:=zN f
   rcases p with p|p
   ·have:=(g.seg.raw _ hv (by show s.t= -1;omega)).1
    simp only at this
    omega
   ·rcases(h.pub s).1 p with⟨v,z,e⟩|⟨-,e⟩
    ·have:=kV g.seg.nl hv z
     rw[<-this]at e;omega
    ·exact q e
  ·unfold Cf.end at a3;omega
 ·rintro⟨f,⟨j,B⟩,u⟩
  have hv:=zN f
  have q:s∉zo m.Gl:=g.seg.disj _ hv
  refine⟨⟨⟨?_,?_⟩,?_⟩,(d f).2 u⟩
  ·rw[Bool.eq_false_iff,ne_eq,h.gone];exact q
  ·by_cases D:0<=s.t
   ·refine .inr ((h.pub s).2 (.inl ⟨_,hv,?_⟩))
    exact(g.seg.tier _ hv D).resolve_left j
   ·exact .inl D
  ·unfold Cf.end;omega
end
section
variable {c:Cf} {ep:Int} {m:MS} {r:RM}
theorem zhQ(b:MOk c ep m){s:Sg}(d:s∈zl m.L)(f:(stL m.L s).st=2):0<=s.t/\s.t<c.n:=by
 have hv:=zN d
 have a:=b.seg.inr _ hv
 refine⟨?_,a.2.2.1⟩
 by_cases e:s.t= -1
 ·have:=(b.seg.raw _ hv e).1
  simp only at this
  omega
 ·have:=a.2.1
  simp only at this
  omega
theorem zcZ(f:MOk c ep m)(h:zaY c m r){v:List (Sg×Unit)}(F:∀x,x∈zo v↔∃k,k∈zl m.L/\(stL m.L k).st=2/\x∈yD c k){s:Sg}(o:s∈zE r.c r.nu):qt r s (zE r.c r.nu)=true↔s∈zl m.L/\kJ c v m.L m.now s=true:=by
 obtain⟨S,D,T⟩:=h.there o
 have K:=o
 unfold qt yT kJ
 rw[h.hc,h.now]at*
 simp only[Bool.and_eq_true,Bool.not_eq_true',decide_eq_false_iff_not,List.all_eq_true,beq_eq_false_iff_ne,beq_iff_eq,decide_eq_true_eq,ne_eq,Option.isNone_iff_eq_none]
 constructor
 ·rintro⟨⟨⟨⟨Q,H⟩,a3⟩,a4⟩,a5⟩
  have B:0<=s.t:=by omega
  obtain⟨n,d⟩:=Ku f.seg.nl ((h.wt f (by rw[h.hc];exact o) B).2 ⟨H,a3⟩)
  refine⟨n,⟨?_,d⟩,by unfold Cf.end at a4;omega⟩
  rw[xm,F]
  rintro⟨k,i,l,J⟩
  have j:=zhQ f i l
  have a:k∈zE c r.nu:=by have:=h.seg ⟨by omega,j.2⟩ i;rwa[h.hc]at this
  have b:=(h.wt f (by rw[h.hc];exact a) j.1).1 ⟨_,zN i,l⟩
  have:=a5 k a
  unfold XQ at this
  rw[h.hc,(KP B D).2 J,b.1,decide_eq_true j.1]at this
  cases this
 ·rintro⟨n,⟨w,y⟩,R⟩
  have d:=zhQ f n y
  have b:=(h.wt f (by rw[h.hc];exact o) d.1).1 ⟨_,zN n,y⟩
  refine⟨⟨⟨⟨by omega,b.1⟩,b.2⟩,by unfold Cf.end;omega⟩,fun x N=>?_⟩
  cases g:XQ r s x with
  |false=>rfl
  |true=>
   unfold XQ at g
   simp only[Bool.and_eq_true,Bool.not_eq_true',decide_eq_true_eq]at g
   obtain⟨⟨z,A⟩,p⟩:=g
   rw[h.hc]at z
   have q:vv x r.gone=false:=by
    rw[Bool.eq_false_iff,ne_eq,h.gone]
    intro e
    rw[(h.pub x).2 (.inr ⟨A,e⟩)]at p;cases p
   obtain⟨P,u⟩:=Ku f.seg.nl ((h.wt f (by rw[h.hc];exact N) A).2 ⟨p,q⟩)
   rw[xm,F]at w
   exact absurd ⟨x,P,u,(KP d.1 D).1 z⟩ w
end
section
variable {c:Cf} {ep:Int} {m:MS} {r:RM} {ns:List Nm}
theorem zbo(m:c.ok)(o:c.fits){k s:Sg}{x:Nm}(q:0<=x.tm)(e:zt c k.t x=k)(f:s∈yD c k):∃j:Nat,j<c.n/\s.t=j/\c.F j=k.t/\zt c j x=s:=by
 unfold yD YB at f
 rw[List.map_map]at f
 obtain⟨j,p,rfl⟩:=List.mem_map.1 f
 obtain⟨b,d⟩:=List.mem_filter.1 p
 have a:j<c.n:=by simpa using b
 have h:c.F j=k.t:=by simpa using d
 refine⟨j,a,rfl,h,?_⟩
 have g:=zhP m o q a
 rw[h]at g
 have i:x.se=k.se:=congrArg Sg.se e
 have l:x.tm/c.wh k.t=k.wn:=congrArg Sg.wn e
 show(⟨(j:Int),x.se,x.tm/c.wh j⟩:Sg)=⟨(j:Int),k.se,k.wn*c.wh k.t/c.W j⟩
 rw[<-l,g,i,vt]
theorem zgM(w:c.ok)(y:c.fits)(A:MOk c ep m)(f:Zi c m ns){d:List (Sg×Unit)}(u:∀x,x∈zo d↔∃k,k∈zl m.L/\(stL m.L k).st=2/\x∈yD c k){p:Jk×Tsk}(o:p∈m.TL)(q:p.2.rl=true):kJ c d m.L m.now p.2.s=true:=by
 have n:=A.tk p o
 have i:=n.roll q
 have a:=n.clo
 unfold kJ
 have h:zS d p.2.s=G:=by
  rw[xm,u]
  rintro⟨k,l,g,z⟩
  obtain⟨x,r,e⟩:=f.has k l
  obtain⟨j,B,b,v,t⟩:=zbo w y (f.tm x r).1 e z
  refine(f.tk p o).roll q j b x r (by rw[b];exact t) ?_
  rw[v,e]
  exact⟨_,zN l,g⟩
 rw[h,i]
 unfold Cf.clo at a
 simpa using a
theorem zgL(k:c.ok)(u:c.fits)(l:MOk c ep m)(b:Zi c m ns){p:Jk×Tsk}(n:p∈m.TL)(o:p.2.rl=false):kI c m.L m.now p.2.s=true:=by
 have g:=l.tk p n
 have i:=g.recl o
 obtain⟨h,f⟩:=(b.tk p n).recl o
 obtain⟨x,q,e⟩:=b.has p.2.s g.mem
 have d:=l.seg.inr _ (zN g.mem)
 unfold kI
 have v:Xt c m.L p.2.s=true:=(Zx k d).2 (fun y A a=>by
  obtain⟨j,w,z,t,r⟩:=zbo k u (b.tm x q).1 e A
  refine f x q e j w t ?_
  rw[r]
  exact⟨_,zN (Vi a),a⟩)
 rw[v]
 simp only[Bool.and_true,Bool.and_eq_true,Bool.not_eq_true',beq_eq_false_iff_ne,ne_eq,decide_eq_true_eq]
 exact⟨i,h⟩
end
theorem jB{c:Cf}{ep:Int}{m:MS}{r:RM}(y:c.ok)(A:c.fits)(i:MOk c ep m)(h:zaY c m r)(S:xp m.TL m.QL r.tk){g:List (Jk×Tsk)}(n:qD c m g):xp g m.QL r.settled.tk:=by
 obtain⟨R,P,F,l⟩:=n.get i.nt
 have f:∀(k:Jk) (x:Tsk),zS m.TL k=E x->k=x.key/\x.s∈zl m.L/\(x.rl=true->kJ c R m.L m.now x.s=true)/\(x.rl=false->kI c m.L m.now x.s=true):=fun k x d=>by
  have n:=zA d
  exact⟨(i.tk _ n).key,(i.tk _ n).mem,fun e=>zgM y A i h.inv P n e,fun e=>zgL y A i h.inv n e⟩
 have j:∀k,k∈zo g↔∃x,zS g k=E x:=fun k=>by
  constructor
  ·intro B
   obtain⟨p,H,rfl⟩:=List.mem_map.1 B
   exact⟨p.2,xu F H⟩
  ·rintro⟨x,d⟩
   exact List.mem_map.2 ⟨_,zA d,rfl⟩
 refine zaD y A i S h.now n (fun kind s D u=>?_) (fun k B=>?_)
 ·rw[j]
  rcases D with rfl|rfl
  ·have e:yG r 1 s (zE r.c r.nu)=qt r s (zE r.c r.nu):=by unfold yG;rw[if_pos rfl]
   rw[e,zcZ i h P u]
   constructor
   ·rintro⟨a,b⟩
    cases d:zS m.TL ⟨1,s⟩with
    |some x=>exact⟨x,(l _ _).2 (.inl d)⟩
    |none=>exact⟨_,(l _ _).2 (.inr ⟨d,s,a,.inl ⟨b,rfl,rfl⟩⟩)⟩
   ·rintro⟨x,d⟩
    rcases(l _ _).1 d with d|⟨-,Q,a,⟨b,e,-⟩|⟨b,e,-⟩⟩
    ·obtain⟨o,v,K,-⟩:=f _ _ d
     unfold Tsk.key Tsk.kd at o
     injection o with w N
     rw[N]
     refine⟨v,K ?_⟩
     cases J:x.rl with
     |true=>rfl
     |false=>rw[J]at w;simp at w
    ·injection e with z q
     rw[q];exact⟨a,b⟩
    ·injection e with z q
     omega
  ·have e:yG r 2 s (zE r.c r.nu)=qJ r s (zE r.c r.nu):=by unfold yG;rw[if_neg (by decide)]
   rw[e,zdb y i h u]
   constructor
   ·rintro⟨a,b⟩
    cases d:zS m.TL ⟨2,s⟩with
    |some x=>exact⟨x,(l _ _).2 (.inl d)⟩
    |none=>exact⟨_,(l _ _).2 (.inr ⟨d,s,a,.inr ⟨b,rfl,rfl⟩⟩)⟩
   ·rintro⟨x,d⟩
    rcases(l _ _).1 d with d|⟨-,Q,a,⟨b,e,-⟩|⟨b,e,-⟩⟩
    ·obtain⟨o,v,-,K⟩:=f _ _ d
     unfold Tsk.key Tsk.kd at o
     injection o with w N
     rw[N]
     refine⟨v,K ?_⟩
     cases J:x.rl with
     |false=>rfl
     |true=>rw[J]at w;simp at w
    ·injection e with z q
     omega
    ·injection e with z q
     rw[q];exact⟨a,b⟩
 ·obtain⟨x,d⟩:=(j k).1 B
  have u:k.s∈zl m.L:=by
   rcases(l _ _).1 d with d|⟨-,Q,a,⟨b,e,-⟩|⟨b,e,-⟩⟩
   ·obtain⟨o,v,-⟩:=f _ _ d
    rw[o];exact v
   ·rw[e];exact a
   ·rw[e];exact a
  have t:=i.seg.inr _ (zN u)
  exact h.seg ⟨t.2.1,t.2.2.1⟩ u
theorem zcj(c:Cf)(s:Sg)(nu:List Nm)(g:∀x∈nu,x.ok)(p:nu.length<=1000000000):IsC (fun x=>zt c s.t x=s) nu (xe c s nu):=by
 have h:∀k,k<=nu.length->IsC (fun x=>zt c s.t x=s) (nu.take k) (xe c s (nu.take k)):=by
  intro k
  induction k with
  |zero=>intro _;simp only[List.take_zero];exact IsC.zero (fun x f=>by cases f)
  |succ k d=>
   intro n
   have a:k<nu.length:=n
   have d:=d (Nat.le_of_lt a)
   have e:nu[k]?=E nu[k]:=List.getElem?_eq_getElem a
   rw[Qf c s nu k _ e,List.take_succ_eq_append_getElem a]
   unfold qm
   by_cases b:zt c s.t nu[k]=s
   ·rw[if_pos b]
    have j:=d.add (x:=nu[k]) b
    have m:=yB (c:=c) (s:=s) (nu:=nu.take k) (fun x f=>g x (List.mem_of_mem_take f))
    have i:zhX (xe c s (nu.take k)) nu[k].val=vQ (xe c s (nu.take k)) nu[k].val:=by
     unfold zhX vQ
     have l:=g _ (List.getElem_mem a)
     unfold Nm.ok at l
     have o:(nu.take k).length<=1000000000:=by rw[List.length_take];omega
     rw[show wrap64 ((xe c s (nu.take k)).sum+nu[k].val)=(xe c s (nu.take k)).sum+nu[k].val by unfold wrap64;omega]
    rw[<-i];exact j
   ·rw[if_neg b];exact d.skip b
 have:=h nu.length (z4 _)
 simpa using this
theorem XV{P Q R:Nm->Prop}[DecidablePred P][DecidablePred Q][DecidablePred R]:∀{ns:List Nm},(∀x∈ns,P x->Q x\/R x)->qY P ns<=qY Q ns+qY R ns
 |[],_=>by simp[qY]
 |x::ns,h=>by
  have c:=XV (ns:=ns) (fun y b=>h y (by simp[b]))
  have a:=h x (by simp)
  simp only[qY]
  by_cases p:P x
  ·rcases a p with q|q
   ·rw[if_pos p,if_pos q];split<;>omega
   ·rw[if_pos p,if_pos q];split<;>omega
  ·rw[if_neg p];repeat' split
   all_goals omega
theorem zbd{P:Nm->Prop}[DecidablePred P]:∀{ns:List Nm},(∀x∈ns,P x)->qY P ns=ns.length
 |[],_=>rfl
 |x::ns,h=>by
  have b:=zbd (P:=P) (ns:=ns) (fun y a=>h y (by simp[a]))
  simp only[qY,List.length_cons]
  rw[if_pos (h x (by simp)),b];omega
theorem zec{ns:List Nm}(h:∀T:Nat,qY (fun x=>x.tm=(T:Int)) ns<=400)(a:∀x∈ns,0<=x.tm):∀N:Nat,qY (fun x=>x.tm<(N:Int)) ns<=400*N
 |0=>by
  rw[qi.2 (fun x c e=>by have:=a x c;omega)];omega
 |N+1=>by
  have g:=zec h a N
  have d:=h N
  have f:qY (fun x=>x.tm<((N+1:Nat):Int)) ns<=qY (fun x=>x.tm<(N:Int)) ns+qY (fun x=>x.tm=(N:Int)) ns:=XV (fun x _ e=>by
   by_cases b:x.tm=(N:Int)
   ·exact .inr b
   ·left;omega)
  omega
theorem zbQ{c:Cf}(m:c.ok){l:List Sg}(hn:l.Nodup)(h:∀k∈l,inR c k/\Ji k):l.length<=2000020:=by
 have j:=ZF (l.map ziY) (List.range 2000020) ?_ ?_
 ·simpa using j
 ·rw[List.nodup_iff_pairwise_ne,List.pairwise_map]
  refine(List.nodup_iff_pairwise_ne.1 hn).imp_of_mem ?_
  intro a b f g d e
  exact d (zbS (h a f).1 (h a f).2 (h b g).1 (h b g).2 e)
 ·intro x n
  obtain⟨s,i,rfl⟩:=List.mem_map.1 n
  exact List.mem_range.2 (zfo m (h s i).1 (h s i).2)
structure qB(c:Cf)(ep:Int)(m:MS)(r:RM):Prop where
 ok:c.ok
 fits:c.fits
 sok:SOk c ep m r.nu.length
 tie:zaY c m r
 tsk:xp m.TL m.QL r.tk
 slot:∀q∈m.QL,0<=q.2.slot
 picks:r.picks=m.num
 epo:r.epoch=ep
 ghas:∀s∈zo m.Gl,∃x∈r.nu,zt c s.t x=s
 ng:r.gone.Nodup
 np:r.pub.Nodup
 full:∀T:Nat,qY (fun x=>x.tm=(T:Int)) r.nu<=400
 comp:Zh c m
section
variable {c:Cf} {ep:Int} {m:MS} {r:RM}
theorem qB.nu(h:qB c ep m r):∀x∈r.nu,x.ok:=fun x a=>by
 have b:=h.tie.inv.tm x a
 have d:=h.sok.ok.now
 unfold Nm.ok;omega
theorem qB.len(h:qB c ep m r):r.nu.length<=100000000:=by
 have b:=zec h.full (fun x a=>(h.nu x a).2.2.1) 100001
 rw[zbd (fun x a=>by have d:=h.nu x a;unfold Nm.ok at d;omega)]at b
 omega
theorem qB.glen(h:qB c ep m r):r.gone.length<=2000020:=zbQ h.ok h.ng (fun s b=>by
 have a:=(h.tie.gone s).1 (kz b)
 exact h.sok.gin s a)
theorem qB.plen(h:qB c ep m r):r.pub.length<=2000020:=zbQ h.ok h.np (fun s b=>by
 rcases(h.tie.pub s).1 (kz b)with⟨v,hv,-⟩|⟨-,a⟩
 ·exact⟨h.sok.ok.seg.inr _ hv,h.sok.lin _ (vJ hv)⟩
 ·exact h.sok.gin s a)
theorem xp.len{TL:List (Jk×Tsk)}{QL:List (Tok×Lse)}{l:List Tk}(h:xp TL QL l):l.length=TL.length:=by
 obtain⟨ts,a,-,rfl⟩:=h
 rw[List.length_map,a.length_eq,List.length_map]
theorem qB.klen(h:qB c ep m r):r.tk.length<=800:=by rw[h.tsk.len];exact h.sok.ok.t800 h.ok
theorem qB.hokr(h:qB c ep m r):r.c.ok:=by rw[h.tie.hc];exact h.ok
theorem qB.time(h:qB c ep m r):0<=r.now/\r.now<=100000:=by rw[h.tie.now];exact h.sok.ok.now
theorem qB.task(h:qB c ep m r):∀x∈r.tk,(0<=x.tc/\x.tc<=1000000000)/\(x.kind=1\/x.kind=2)/\zjw r.c x.s/\0<=x.si/\x.si<=r.now:=fun x e=>by
 obtain⟨p,d,rfl⟩:=(h.tsk.mem x).1 e
 have a:=h.sok.ok.tk p d
 have f:=h.sok.ok.now
 have b:=h.sok.ok.mem_inR a.mem
 have g:=a.tc
 refine⟨by show 0<=p.2.tc/\p.2.tc<=1000000000;omega,?_,?_,a.si.1,by rw[h.tie.now];exact a.si.2⟩
 ·show p.2.kd=1\/p.2.kd=2
  unfold Tsk.kd;split
  ·exact .inl rfl
  ·exact .inr rfl
 ·rw[h.tie.hc];exact b.2
theorem qB.inGl(h:qB c ep m r){s:Sg}:s∈r.gone↔s∈zo m.Gl:=by
 have:=h.tie.gone s
 unfold vv at this;simpa using this
theorem qB.inPub(h:qB c ep m r){s:Sg}:s∈r.pub↔Pub m.L s\/(0<=s.t/\s∈zo m.Gl):=by
 have:=h.tie.pub s
 unfold vv at this;simpa using this
theorem qB.segs(h:qB c ep m r)(s:Sg):s∈zE r.c r.nu↔s∈zl m.L\/s∈zo m.Gl:=by
 constructor
 ·intro b;exact(h.tie.there b).2.2
 ·rintro(b|b)
  ·have a:=h.sok.ok.mem_inR b
   exact h.tie.seg ⟨a.2.1,a.2.2.1⟩ b
  ·have a:=(h.sok.gin s b).1
   obtain⟨x,d,e⟩:=h.ghas s b
   rw[h.tie.hc,yv]
   exact⟨a.2.1,a.2.2.1,x,d,e.symm⟩
theorem qB.perm(h:qB c ep m r):(zE r.c r.nu).Perm (zl m.L++zo m.Gl):=by
 refine(List.perm_ext_iff_of_nodup (Xz _ _) ?_).2 (fun s=>by rw[h.segs,List.mem_append])
 rw[List.nodup_append]
 refine⟨h.sok.ok.seg.nl,h.sok.ok.seg.ng,fun a d b f e=>?_⟩
 subst e
 exact h.sok.ok.seg.disj _ (zN d) f
theorem qB.sum(h:qB c ep m r)(f:Sg->Int)(g:SV->Int)(e:Int)(d:∀p∈m.L,f p.1=g p.2)(i:∀s∈zo m.Gl,f s=e):xI ((zE r.c r.nu).map f)=xI (m.L.map (fun p=>g p.2))+e*m.Gl.length:=by
 rw[Yg (h.perm.map f),List.map_append,Yf]
 congr 1
 ·unfold zl
  rw[List.map_map]
  exact congrArg xI (List.map_congr_left (fun p j=>d p j))
 ·have:∀l:List Sg,(∀s∈l,f s=e)->xI (l.map f)=e*l.length:=by
   intro l
   induction l with
   |nil=>intro _;simp[xI]
   |cons a l n=>
    intro b
    rw[List.map_cons,xI,n (fun s k=>b s (by simp[k])),b a (by simp),List.length_cons]
    push_cast;rw[Int.mul_add];omega
  rw[this _ i]
  unfold zo;rw[List.length_map]
theorem qB.raw(h:qB c ep m r){p:Sg×SV}(e:p∈m.L)(a:p.2.st≠2):xe r.c p.1 r.nu=p.2.cl:=by
 have b:=zcj r.c p.1 r.nu h.nu (by have:=h.len;omega)
 have d:=h.tie.inv.cell p e a
 rw[h.tie.hc]at b ⊢
 exact b.one d
theorem qB.used(h:qB c ep m r):r.used=zU m.L:=by
 unfold RM.used kG
 rw[Kr (ji r.c r.nu r.gone),h.sum _ yj 0 (fun p a=>?_) (fun s i=>?_)]
 ·unfold zU;omega
 ·have d:¬p.1∈r.gone:=fun e=>h.sok.ok.seg.disj p a (h.inGl.1 e)
  unfold ji yj
  rw[if_neg d]
  by_cases f:p.1.t= -1
  ·have g:=(h.sok.ok.seg.raw p a f).1
   rw[if_pos f,if_pos g,h.raw a (by omega)]
  ·have b:=h.sok.ok.seg.inr p a
   have g:=h.sok.ok.seg.tier p a (by have:=b.2.1;omega)
   rw[if_neg f,if_neg (by omega)]
 ·unfold ji
  rw[if_pos (h.inGl.2 i)]
theorem qB.ubound(h:qB c ep m r):0<=zU m.L/\zU m.L<=400:=h.sok.ok.seg.u0 h.ok
theorem qB.tight(h:qB c ep m r):r.tight=vK (zU m.L) c.qu:=by
 unfold RM.tight vK
 rw[h.used,h.tie.hc]
theorem zhN(r:RM):∀(l:List Sg) (a:Sc),l.foldl (kE r) a=⟨a.held+xI (l.map (fun s=>if s∈r.gone then 0 else if s.t= -1 then 1 else 0)),a.wait+xI (l.map (fun s=>if s∈r.gone then 0 else if s.t= -1 then 0 else if s∈r.pub then 0 else 1)),a.pub+xI (l.map (fun s=>if s∈r.gone then 0 else if s.t= -1 then 0 else if s∈r.pub then 1 else 0)),a.gone+xI (l.map (fun s=>if s∈r.gone then 1 else 0))⟩
 |[],a=>by simp[xI]
 |s::l,a=>by
  rw[List.foldl_cons,zhN r l]
  simp only[List.map_cons,xI]
  unfold kE
  by_cases b:s∈r.gone
  ·simp only[if_pos b];congr 1<;>omega
  ·by_cases c:s.t= -1
   ·simp only[if_neg b,if_pos c];congr 1<;>omega
   ·by_cases d:s∈r.pub
    ·simp only[if_neg b,if_neg c,if_pos d];congr 1<;>omega
    ·simp only[if_neg b,if_neg c,if_neg d];congr 1<;>omega
theorem qB.stats(h:qB c ep m r):zbP r (zE r.c r.nu)=⟨xy m.L 1,xy m.L 2,xy m.L 3,m.Gl.length⟩/\r.used=zU m.L/\r.tightI=yi (vK (zU m.L) c.qu):=by
 have j:∀p∈m.L,¬p.1∈r.gone:=fun p d e=>h.sok.ok.seg.disj p d (h.inGl.1 e)
 have f:∀p∈m.L,p.1∈r.pub↔p.2.st=3:=fun p d=>by
  rw[h.inPub]
  constructor
  ·rintro(⟨v,hv,e⟩|⟨-,e⟩)
   ·rw[kV h.sok.ok.seg.nl d hv];exact e
   ·exact absurd e (h.sok.ok.seg.disj p d)
  ·intro e;exact .inl ⟨p.2,d,e⟩
 have i:∀p∈m.L,(p.1.t= -1/\p.2.st=1)\/(¬p.1.t= -1/\(p.2.st=2\/p.2.st=3)):=fun p d=>by
  have n:=h.sok.ok.seg.inr p d
  by_cases o:p.1.t= -1
  ·exact .inl ⟨o,(h.sok.ok.seg.raw p d o).1⟩
  ·exact .inr ⟨o,h.sok.ok.seg.tier p d (by have:=n.2.1;omega)⟩
 have u:∀p∈m.L,(fun s:Sg=>if s∈r.gone then(0:Int)else if s.t= -1 then 1 else 0) p.1=Yu 1 p.2:=fun p d=>by
  dsimp only
  rw[if_neg (j p d)]
  unfold Yu
  rcases i p d with⟨a,b⟩|⟨a,b⟩
  ·rw[if_pos a,if_pos b]
  ·rw[if_neg a,if_neg (by omega)]
 have w:∀p∈m.L,(fun s:Sg=>if s∈r.gone then(0:Int)else if s.t= -1 then 0 else if s∈r.pub then 0 else 1) p.1=Yu 2 p.2:=fun p d=>by
  dsimp only
  rw[if_neg (j p d)]
  unfold Yu
  rcases i p d with⟨a,b⟩|⟨a,b⟩
  ·rw[if_pos a,if_neg (by omega)]
  ·rw[if_neg a]
   by_cases e:p.2.st=3
   ·rw[if_pos ((f p d).2 e),if_neg (by omega)]
   ·rw[if_neg (fun k=>e ((f p d).1 k)),if_pos (by omega)]
 have x:∀p∈m.L,(fun s:Sg=>if s∈r.gone then(0:Int)else if s.t= -1 then 0 else if s∈r.pub then 1 else 0) p.1=Yu 3 p.2:=fun p d=>by
  dsimp only
  rw[if_neg (j p d)]
  unfold Yu
  rcases i p d with⟨a,b⟩|⟨a,b⟩
  ·rw[if_pos a,if_neg (by omega)]
  ·rw[if_neg a]
   by_cases e:p.2.st=3
   ·rw[if_pos ((f p d).2 e),if_pos e]
   ·rw[if_neg (fun k=>e ((f p d).1 k)),if_neg e]
 have y:∀p∈m.L,(fun s:Sg=>if s∈r.gone then(1:Int)else 0) p.1=(fun _:SV=>(0:Int)) p.2:=fun p d=>by
  dsimp only
  rw[if_neg (j p d)]
 refine⟨?_,h.used,?_⟩
 ·unfold zbP
  rw[zhN,h.sum _ (Yu 1) 0 u (fun s g=>by rw[if_pos (h.inGl.2 g)]),h.sum _ (Yu 2) 0 w (fun s g=>by rw[if_pos (h.inGl.2 g)]),h.sum _ (Yu 3) 0 x (fun s g=>by rw[if_pos (h.inGl.2 g)]),h.sum _ (fun _=>0) 1 y (fun s g=>by rw[if_pos (h.inGl.2 g)])]
  have q:xI (m.L.map (fun _=>(0:Int)))=0:=by
   generalize m.L=l
   induction l with
   |nil=>rfl
   |cons a l z=>rw[List.map_cons,xI,z];rfl
  rw[q]
  unfold xy
  dsimp only
  congr 1<;>omega
 ·unfold RM.tightI yi
  rw[h.tight]
  cases vK (zU m.L) c.qu<;>rfl
theorem qB.query(h:qB c ep m r){t se wn:Int}(j:¬(t< -1\/r.c.n<=t\/se<0\/4<=se\/wn<0\/100000<wn)):r.query t se wn=qk c m.now m.Gl m.L t se wn:=by
 have g:r.c.end ⟨t,se,wn⟩=(wn+1)*c.wh t:=by rw[h.tie.hc];rfl
 have o:r.c.la=c.la:=by rw[h.tie.hc]
 by_cases f:r.now-r.c.la<r.c.end ⟨t,se,wn⟩
 ·rw[Kg j f]
  unfold qk
  rw[g,o,h.tie.now]at f
  rw[if_pos f];rfl
 ·have p:=f
  rw[g,o,h.tie.now]at p
  have w:=Vy (c:=r.c) (nu:=r.nu) (s:=⟨t,se,wn⟩) (by show-1<=t;omega) (by show t<r.c.n;omega)
  unfold qk
  rw[if_neg p]
  by_cases q:(⟨t,se,wn⟩:Sg)∈zE r.c r.nu
  ·have d:¬(xe r.c ⟨t,se,wn⟩ r.nu).cnt=0:=fun e=>w.1 e q
   by_cases k:(⟨t,se,wn⟩:Sg)∈zo m.Gl
   ·rw[Kf j f d (h.inGl.2 k)]
    unfold qA;rw[Vh k];rfl
   ·have y:=((h.segs _).1 q).resolve_right k
    have i:¬(⟨t,se,wn⟩:Sg)∈r.gone:=fun e=>k (h.inGl.1 e)
    have a:=zN y
    rw[Qa k]
    have u:(⟨t,se,wn⟩:Sg)∈r.pub↔(stL m.L ⟨t,se,wn⟩).st=3:=by
     rw[h.inPub]
     constructor
     ·rintro(⟨v,hv,e⟩|⟨-,e⟩)
      ·rw[kV h.sok.ok.seg.nl a hv];exact e
      ·exact absurd e k
     ·intro e;exact .inl ⟨_,a,e⟩
    by_cases z:t= -1
    ·have b:=(h.sok.ok.seg.raw _ a z).1
     dsimp only at b
     have l:=h.raw a (by dsimp only;omega)
     dsimp only at l
     rw[KW j f d i (by omega),l]
     unfold qA;rw[b];rfl
    ·rcases h.sok.ok.seg.tier _ a (by show 0<=t;omega)with b|b
     ·dsimp only at b
      rw[Kh j f d i ⟨by omega,fun e=>by have:=u.1 e;omega⟩]
      unfold qA;rw[b];rfl
     ·dsimp only at b
      have l:=h.raw a (by dsimp only;omega)
      dsimp only at l
      rw[KW j f d i (fun e=>e.2 (u.2 b)),l]
      unfold qA;rw[b];rfl
  ·rw[Y6 j f (w.2 q)]
   have b:(⟨t,se,wn⟩:Sg)∉zo m.Gl:=fun e=>q ((h.segs _).2 (.inr e))
   have x:(⟨t,se,wn⟩:Sg)∉zl m.L:=fun e=>q ((h.segs _).2 (.inl e))
   rw[Qa b]
   have:stL m.L ⟨t,se,wn⟩=⟨0,qC⟩:=by unfold stL;rw[ya.2 x];rfl
   rw[this];rfl
end
def xC(c:Cf)(m:MS)(se tm val:Int):MS×Int:=
 if se<0\/4<=se then(m,2)
 else if tm<0\/m.now<tm then(m,5)
 else if tm<m.now-c.la then(m,3)
 else if c.qu<zU m.L+(1+2*qK c m.L ⟨se,tm,val⟩ c.n)then(m,4)
 else({m with L:=yH c m.L ⟨se,tm,val⟩},0)
theorem YL{now:Int}:∀(a:List Sg) {T:List (Jk×Tsk)},(∀s∈a,(⟨1,s⟩:Jk)∈zo T)->a.foldl (qH now) T=T
 |[],T,_=>rfl
 |y::a,T,h=>by
  have e:qH now T y=T:=by
   unfold qH
   cases b:zS T ⟨1,y⟩with
   |some x=>rfl
   |none=>exact absurd (h y (by simp)) (xm.1 b)
  rw[List.foldl_cons,e];exact YL a (fun s c=>h s (by simp[c]))
theorem YK{now:Int}:∀(a:List Sg) {T:List (Jk×Tsk)},(∀s∈a,(⟨2,s⟩:Jk)∈zo T)->a.foldl (yd now) T=T
 |[],T,_=>rfl
 |y::a,T,h=>by
  have e:yd now T y=T:=by
   unfold yd
   cases b:zS T ⟨2,y⟩with
   |some x=>rfl
   |none=>exact absurd (h y (by simp)) (xm.1 b)
  rw[List.foldl_cons,e];exact YK a (fun s c=>h s (by simp[c]))
section
variable {c:Cf} {ep:Int} {m:MS} {r:RM}
theorem Zh.posted(h:Zh c m):qD c m m.TL:=by
 obtain⟨b,f,d,e⟩:=h
 refine⟨⟨b,(zl m.L).filter (fun s=>kJ c b m.L m.now s),(zl m.L).filter (fun s=>kI c m.L m.now s),f,fun s=>List.mem_filter,fun s=>List.mem_filter,?_⟩⟩
 rw[YL _ (fun s a=>d s (List.mem_filter.1 a).1 (List.mem_filter.1 a).2),YK _ (fun s a=>e s (List.mem_filter.1 a).1 (List.mem_filter.1 a).2)]
theorem VQ(l:List Sg):zo (l.map (fun s=>(s,())))=l:=by
 unfold zo
 rw[List.map_map]
 simp[Function.comp_def]
theorem Zh.added(l:c.ok)(W:c.fits){x:Nm}(D:MOk c ep m)(q:MOk c ep {m with L:=yH c m.L x})(h:Zh c m)(K:m.now-c.la<=x.tm):Zh c {m with L:=yH c m.L x}:=by
 obtain⟨P,U,R,S⟩:=h
 have X:=l.n1
 have r:(zl (yH c m.L x)).Nodup:=q.seg.nl
 have f:∀s,s∈zl (yH c m.L x)->c.clo m.now s->s∈zl m.L/\stL (yH c m.L x) s=stL m.L s:=fun s n a=>by
  have z:=zN n
  rcases Zj z with e|⟨e,-⟩|⟨j,hj,e,-⟩
  ·exfalso
   injection e with A Q
   refine jA l (t:= -1) (x:=x) (by omega) (by omega) K ?_
   rw[show zt c (-1) x=s from A.symm];exact a
  ·exact⟨vJ e,kV D.seg.nl e (zN (vJ e))⟩
  ·exfalso
   injection e with A Q
   refine jA l (t:=(j:Int)) (x:=x) (by omega) (by omega) K ?_
   rw[<-A];exact a
 have N:∀k,k∈zl m.L->(stL m.L k).st=2->k∈zl (yH c m.L x)/\(stL (yH c m.L x) k).st=2:=fun k g b=>by
  have z:=zN g
  have H:k≠xc c x:=fun e=>by
   have:=(D.seg.raw _ z (by rw[e];rfl)).1
   dsimp only at this;omega
  have i:=Kv (c:=c) (x:=x) z H
  have p:=vJ i
  refine⟨p,?_⟩
  rw[kV r (zN p) i];exact b
 refine⟨((((zl (yH c m.L x)).filter (fun k=>decide ((stL (yH c m.L x) k).st=2))).flatMap (yD c)).map (fun s=>(s,()))),fun y=>?_,fun s n d=>?_,fun s n d=>?_⟩
 ·rw[VQ,List.mem_flatMap]
  constructor
  ·rintro⟨k,g,v⟩
   obtain⟨i,B⟩:=List.mem_filter.1 g
   exact⟨k,i,of_decide_eq_true B,v⟩
  ·rintro⟨k,i,B,v⟩
   exact⟨k,List.mem_filter.2 ⟨i,decide_eq_true B⟩,v⟩
 ·obtain⟨a,b⟩:=zbM d
  obtain⟨g,w⟩:=f s n a
  refine R s g ?_
  have F:s∉zo P:=fun V=>by
   obtain⟨k,Y,Z,k3⟩:=(U s).1 V
   obtain⟨k4,k5⟩:=N k Y Z
   unfold kJ at d
   cases J:zS ((((zl (yH c m.L x)).filter (fun k=>decide ((stL (yH c m.L x) k).st=2))).flatMap (yD c)).map (fun s=>(s,()))) s with
   |some u=>rw[J]at d;simp at d
   |none=>
    refine xm.1 J ?_
    rw[VQ]
    exact List.mem_flatMap.2 ⟨k,List.mem_filter.2 ⟨k4,decide_eq_true k5⟩,k3⟩
  unfold kJ
  dsimp only at w b
  rw[w]at b
  rw[xm.2 F,b]
  unfold Cf.clo at a
  simpa using a
 ·obtain⟨a,b⟩:=zbI l W q.seg n d
  obtain⟨g,w⟩:=f s n a
  refine S s g ?_
  unfold kI at d ⊢
  simp only[Bool.and_eq_true]at d ⊢
  rw[w]at d
  refine⟨d.1,?_⟩
  have o:=D.mem_inR g
  rw[Zx l o]
  have T:=(Zx l o).1 d.2
  exact fun y v e=>T y v (N y (Vi e) e).2
theorem zbe{α:Type}[DecidableEq α](f:Nm->α)(ns:List Nm):∀ks:List α,qY (fun x=>f x∈ks) ns<=xI (ks.map (fun k=>qY (fun x=>f x=k) ns))
 |[]=>by
  rw[qi.2 (fun x _ h=>by cases h)];simp[xI]
 |k::ks=>by
  have a:=zbe f ns ks
  rw[List.map_cons,xI]
  refine Int.le_trans (XV (Q:=fun x=>f x=k) (R:=fun x=>f x∈ks) (fun x _ h=>by simpa using h)) ?_
  omega
theorem zbX:∀(l:List Int),(∀x∈l,0<=x)->0<=xI l
 |[],_=>by simp[xI]
 |a::l,h=>by
  have c:=h a (by simp)
  have d:=zbX l (fun x b=>h x (by simp[b]))
  simp only[xI];omega
theorem zgk(d:c.ok)(a:MOk c ep m){ns:List Nm}(l:Zi c m ns){T:Int}(y:m.now-c.la<=T):qY (fun x=>x.tm=T) ns<=400:=by
 have q:=d.n1
 have o:qY (fun x=>x.tm=T) ns<=qY (fun x=>xc c x∈zl m.L) ns+qY (fun _=>False) ns:=XV (fun x i e=> .inl (by
  rcases l.keys x i (-1) (by omega) (by omega)with h|h
  ·exact h
  ·exact absurd h (yV d a (x:=x) (by omega) (by omega) (by omega))))
 rw[show qY (fun _=>False) ns=0 from qi.2 (fun _ _ h=>h)]at o
 have r:=zbe (xc c) ns (zl m.L)
 have s:xI ((zl m.L).map (fun k=>qY (fun x=>xc c x=k) ns))=Xa m.L:=by
  unfold zl Xa
  rw[List.map_map]
  refine congrArg xI (List.map_congr_left (fun p b=>?_))
  dsimp only[Function.comp]
  unfold yn
  by_cases g:p.1.t= -1
  ·have n:=(a.seg.raw p b g).1
   rw[if_pos n,(l.cell p b (by omega)).cnt]
   refine(jm (fun x _=>?_)).1
   rw[g];exact Iff.rfl
  ·have f:=a.seg.inr p b
   have n:=a.seg.tier p b (by have:=f.2.1;omega)
   rw[if_neg (by omega)]
   exact qi.2 (fun x _ e=>g (by rw[<-e];rfl))
 have u:=Kt m.L a.seg.sts
 have v:=a.seg.used
 have w:=d.qu
 have j:∀k,0<=xy m.L k:=fun k=>by
  unfold xy
  refine zbX _ (fun x i=>?_)
  obtain⟨p,-,rfl⟩:=List.mem_map.1 i
  unfold Yu;split<;>omega
 have:=j 2
 have:=j 3
 omega
theorem qB.cost(h:qB c ep m r){x:Nm}(g:m.now-c.la<=x.tm):∀k:Nat,k<=c.n->qR r (zE r.c r.nu) x k=zU m.L+1+2*qK c m.L x k
 |0,_=>by
  have:=h.used
  simp[qR,qK,this]
 |k+1,j=>by
  have i:=h.cost g k (by omega)
  have f:zt c (k:Int) x∉zo m.Gl:=yV h.ok h.sok.ok g (by omega) (by omega)
  have b:=h.tie.hc
  by_cases d:zt r.c (k:Int) x∈zE r.c r.nu
  ·have a:zt c (k:Int) x∈zl m.L:=by
    have:=(h.segs _).1 d
    rw[b]at this
    exact this.resolve_right f
   rw[zaa d,i];simp[qK,a]
  ·have a:¬zt c (k:Int) x∈zl m.L:=fun e=>d ((h.segs _).2 (.inl (by rw[b];exact e)))
   rw[KB d,i];simp only[qK,if_neg a];omega
theorem qB.ingest(h:qB c ep m r)(se tm val:Int)(t: -2147483648<=val/\val<=2147483647):(r.ingest se tm val).2=(xC c m se tm val).2/\qB c ep (xC c m se tm val).1 (r.ingest se tm val).1:=by
 have a:=h.tie.now
 have b:=h.tie.hc
 by_cases f:se<0\/4<=se
 ·rw[Xb f,show xC c m se tm val=(m,2)from by unfold xC;rw[if_pos f]]
  exact⟨rfl,h⟩
 by_cases k:tm<0\/m.now<tm
 ·rw[Z4 f (by rw[a];exact k),show xC c m se tm val=(m,5)from by unfold xC;rw[if_neg f,if_pos k]]
  exact⟨rfl,h⟩
 by_cases o:tm<m.now-c.la
 ·rw[Qy f (by rw[a];exact k) (by rw[a,b];exact o),show xC c m se tm val=(m,3)from by unfold xC;rw[if_neg f,if_neg k,if_pos o]]
  exact⟨rfl,h⟩
 have w:m.now-c.la<=(⟨se,tm,val⟩:Nm).tm:=by show m.now-c.la<=tm;omega
 have g:=h.cost w c.n (z4 _)
 by_cases B:c.qu<zU m.L+(1+2*qK c m.L ⟨se,tm,val⟩ c.n)
 ·rw[Qx f (by rw[a];exact k) (by rw[a,b];exact o) (by rw[b]at g ⊢;rw[g];omega),show xC c m se tm val=(m,4)from by unfold xC;rw[if_neg f,if_neg k,if_neg o,if_pos B]]
  exact⟨rfl,h⟩
 rw[VM f (by rw[a];exact k) (by rw[a,b];exact o) (by rw[b]at g ⊢;rw[g];omega),show xC c m se tm val=({m with L:=yH c m.L ⟨se,tm,val⟩},0)from by unfold xC;rw[if_neg f,if_neg k,if_neg o,if_neg B]]
 have A:Yp c ep m r.nu {m with L:=yH c m.L ⟨se,tm,val⟩} (r.nu++[⟨se,tm,val⟩]):=.added m r.nu ⟨se,tm,val⟩ ⟨by show 0<=se;omega,by show se<4;omega⟩ ⟨by show 0<=tm;omega,by show tm<=m.now;omega⟩ w t (by omega)
 have i:=A.ok h.ok h.fits h.sok
 have q:=h.tie.inv.act h.ok h.fits h.sok (by have:=h.len;omega) A
 have p:=h.comp.added h.ok h.fits h.sok.ok i.ok w
 have y:=h.sok.ok.seg
 have d:zaY c {m with L:=yH c m.L ⟨se,tm,val⟩} {r with nu:=r.nu++[⟨se,tm,val⟩]}:=by
  refine⟨b,a,h.tie.gone,fun s=>?_,q⟩
  rw[h.tie.pub s]
  refine or_congr ⟨fun⟨v,hv,l⟩=>⟨v,Kv hv (fun e=>?_),l⟩,fun⟨v,hv,l⟩=>?_⟩ Iff.rfl
  ·have F:=(y.raw _ hv (by rw[show s=xc c ⟨se,tm,val⟩from e];rfl)).1
   dsimp only at F;omega
  ·rcases Zj hv with e|⟨e,-⟩|⟨j,K,e,-⟩
   ·injection e with D u;rw[u]at l;simp at l
   ·exact⟨v,e,l⟩
   ·injection e with D u;rw[u]at l;simp at l
 have z:=jB h.ok h.fits i.ok d h.tsk p.posted
 refine⟨rfl,⟨h.ok,h.fits,i,⟨d.hc,d.now,d.gone,d.pub,d.inv⟩,z,h.slot,h.picks,h.epo,fun s H=>?_,h.ng,h.np,fun T=>?_,p⟩⟩
 ·obtain⟨x,J,e⟩:=h.ghas s H
  exact⟨x,List.mem_append_left _ J,e⟩
 ·show qY (fun x=>x.tm=(T:Int)) (r.nu++[⟨se,tm,val⟩])<=400
  by_cases e:tm=(T:Int)
  ·exact zgk h.ok i.ok q (by show m.now-c.la<=_;omega)
  ·rw[(Zr _ _).1,if_neg e]
   have:=h.full T
   omega
end
structure ExpF(n:Int)(TL:List (Jk×Tsk))(QL:List (Tok×Lse))(T1:List (Jk×Tsk))(Q1:List (Tok×Lse))(D:List Jk):Prop where
 tl:T1=TL.map (fun p=>if p.1∈D then(p.1,p.2.failed n)else p)
 sub:∀q∈Q1,q∈QL
 out:∀q∈QL,q∈Q1\/(q.2.job∈D/\q.2.til<=n)
 inn:∀q∈Q1,q.2.job∉D
 has:∀k∈D,∃q∈QL,q.2.job=k
 nq:(zo Q1).Nodup
 jobs:(Q1.map (fun q=>q.2.job)).Nodup
theorem VC{n:Int}{TL:List (Jk×Tsk)}{QL:List (Tok×Lse)}(nt:(zo TL).Nodup)(nq:(zo QL).Nodup)(jobs:(QL.map (fun q=>q.2.job)).Nodup){i:List (Jk×Tsk)}{Q1:List (Tok×Lse)}(h:JF n TL QL i Q1):∃D,ExpF n TL QL i Q1 D:=by
 induction h with
 |nil=>exact⟨[],by simp,fun q h=>h,fun q h=> .inl h,fun q _=>by simp,fun k m=>(by cases m),nq,jobs⟩
 | @step i Q1 t g x _ z r J K=>
  obtain⟨D,A,i2,i3,i4,i5,B,F⟩:=K
  have c:=zA z
  have d:g.job∉D:=i4 _ c
  have w:zS i g.job=E x:=J
  have f:=zA w
  have y:(g.job,x)∈TL:=by
   rw[A]at f
   obtain⟨p,u,e⟩:=List.mem_map.1 f
   by_cases a:p.1∈D
   ·rw[if_pos a]at e
    injection e with H L
    exact absurd (H▸a) d
   ·rw[if_neg a]at e
    rw[<-e];exact u
  refine⟨g.job::D,?_,fun q j=>i2 q (zL.1 j).1,fun q j=>?_,fun q j=>?_,fun k m=>?_,xX B,ju F _⟩
  ·show qI i g.job (x.failed n)=_
   unfold qI
   rw[if_pos (show g.job∈zo i from List.mem_map.2 ⟨_,f,rfl⟩),A,List.map_map]
   refine List.map_congr_left (fun p u=>?_)
   dsimp only[Function.comp]
   by_cases a:p.1∈D
   ·have s:¬p.1=g.job:=fun e=>d (e▸a)
    simp[a,s]
   ·by_cases e:p.1=g.job
    ·have b:zS TL p.1=E p.2:=xu nt u
     have o:zS TL g.job=E x:=xu nt y
     rw[e,o]at b
     injection b with b
     have v:p=(g.job,x):=Prod.ext e b.symm
     subst v
     simp[d]
    ·simp[a,e]
  ·rcases i3 q j with b|⟨b,o⟩
   ·by_cases e:q.1=t
    ·have l:zS Q1 q.1=E q.2:=xu B b
     rw[e,z]at l
     injection l with l
     exact .inr ⟨by rw[<-l];simp,by rw[<-l];exact r⟩
    ·exact .inl (zL.2 ⟨b,e⟩)
   ·exact .inr ⟨List.mem_cons_of_mem _ b,o⟩
  ·intro a
   rcases List.mem_cons.1 a with e|a
   ·exact vV F c j e
   ·exact i4 q (zL.1 j).1 a
  ·rcases List.mem_cons.1 m with rfl|m
   ·exact⟨_,i2 _ c,rfl⟩
   ·exact i5 k m
theorem xp.expired{n:Int}{TL r:List (Jk×Tsk)}{QL Q1:List (Tok×Lse)}{D:List Jk}{l:List Tk}(J:∀p∈TL,p.1=p.2.key)(j:∀q∈QL,0<=q.2.slot)(h:xp TL QL l)(f:ExpF n TL QL r Q1 D)(L:∀p∈Q1,n<p.2.til):xp r Q1 (l.map (JH n)):=by
 obtain⟨ts,v,N,rfl⟩:=h
 refine⟨ts.map (fun z=>if z.key∈D then z.failed n else z),?_,?_,?_⟩
 ·have e:r.map (·.2)=(TL.map (·.2)).map (fun z=>if z.key∈D then z.failed n else z):=by
   rw[f.tl,List.map_map,List.map_map]
   refine List.map_congr_left (fun p K=>?_)
   dsimp only[Function.comp]
   rw[<-J p K]
   split<;>rfl
  rw[e];exact v.map _
 ·rw[List.pairwise_map]
  refine N.imp (fun{a b} h=>?_)
  have B:∀z:Tsk,(if z.key∈D then z.failed n else z).kd=z.kd/\(if z.key∈D then z.failed n else z).s=z.s:=fun z=>by split<;>exact⟨rfl,rfl⟩
  have y:=B a
  have A:=B b
  rw[Qe]at h ⊢
  rw[y.1,y.2,A.1,A.2]
  exact h
 ·rw[List.map_map,List.map_map]
  refine List.map_congr_left (fun z Q=>?_)
  dsimp only[Function.comp]
  rcases Xc QL z with⟨q,m,g,e⟩|⟨hn,e⟩
  ·rcases f.out q m with d|⟨d,w⟩
   ·have c:z.key∉D:=g▸f.inn q d
    rw[if_neg c]
    have k:XR Q1 z=(q.1,q.2.slot,q.2.til):=Zy f.jobs d g
    have F:kM QL z=kM Q1 z:=vq (e.trans k.symm)
    rw[F]
    unfold JH
    rw[if_neg]
    rintro⟨-,H⟩
    have x:(kM Q1 z).till=q.2.til:=by show(XR Q1 z).2.2=_;rw[k]
    have:=L q d
    omega
   ·have c:z.key∈D:=g▸d
    rw[if_pos c]
    have u:XR Q1 (z.failed n)=(⟨0,0⟩,-1,0):=vU (fun o i t=>f.inn o i (by rw[show o.2.job=z.key from t];exact c))
    unfold JH
    rw[if_pos]
    ·unfold Tk.fail kM
     rw[u]
     rfl
    ·have x:(kM QL z).till=q.2.til:=by show(XR QL z).2.2=_;rw[e]
     have P:(kM QL z).slot=q.2.slot:=by show(XR QL z).2.1=_;rw[e]
     have:=j q m
     omega
  ·have c:z.key∉D:=fun c=>by
    obtain⟨q,d,w⟩:=f.has _ c
    exact hn q d w
   rw[if_neg c]
   have k:XR Q1 z=(⟨0,0⟩,-1,0):=vU (fun o i t=>hn o (f.sub o i) t)
   rw[vq (e.trans k.symm)]
   unfold JH
   rw[if_neg]
   rintro⟨H,-⟩
   have x:(kM Q1 z).slot= -1:=by show(XR Q1 z).2.1=_;rw[k]
   omega
section
variable {c:Cf} {ep:Int} {m:MS} {r:RM}
theorem qB.tick_bad(h:qB c ep m r){n:Int}(a:n<1\/1000<n\/100000<m.now+n):r.tickL n=(r,5):=ZR (by rw[h.tie.now];exact a)
theorem qB.tick(h:qB c ep m r){n:Int}(hn:1<=n/\n<=1000)(f:m.now+n<=100000){b e:List (Jk×Tsk)}{a:List (Tok×Lse)}(i:JF (m.now+n) m.TL m.QL b a)(o:∀p∈a,m.now+n<p.2.til)(g:qD c {m with now:=m.now+n,TL:=b,QL:=a} e):(r.tickL n).2=0/\qB c ep {m with now:=m.now+n,TL:=e,QL:=a} (r.tickL n).1:=by
 have w:r.tickL n=({r with now:=r.now+n,tk:=r.tk.map (JH (r.now+n))}.settled,0):=zca (by rw[h.tie.now];omega)
 rw[w]
 refine⟨rfl,?_⟩
 have l:=h.sok.ok.exps (n':=m.now+n) ⟨by omega,f⟩ i o
 obtain⟨D,u⟩:=VC h.sok.ok.nt h.sok.ok.nq h.sok.ok.jobs i
 have j:Zi c {m with now:=m.now+n,TL:=b,QL:=a} r.nu:=h.tie.inv.ticked (by omega) (zbi i) m.num
 have d:zaY c {m with now:=m.now+n,TL:=b,QL:=a} {r with now:=r.now+n,tk:=r.tk.map (JH (r.now+n))}:=⟨h.tie.hc,by show r.now+n=m.now+n;rw[h.tie.now],h.tie.gone,h.tie.pub,j⟩
 have k:xp b a (r.tk.map (JH (r.now+n))):=by
  rw[h.tie.now]
  exact h.tsk.expired (fun p g=>(h.sok.ok.tk p g).key) h.slot u o
 have t:=jB h.ok h.fits l d k g
 have v:Yp c ep m r.nu {m with now:=m.now+n,TL:=e,QL:=a} r.nu:=.ticked m r.nu n b e a hn.1 f i o g
 refine⟨h.ok,h.fits,v.ok h.ok h.fits h.sok,⟨d.hc,d.now,d.gone,d.pub,h.tie.inv.act h.ok h.fits h.sok (by have:=h.len;omega) v⟩,t,fun q s=>h.slot q (u.sub q s),h.picks,h.epo,h.ghas,h.ng,h.np,h.full,Zh.of g⟩
end
theorem zbs(n:Int)(w:M)(h:n<0\/4<=n):Calls prog 60 #[I O n] w fun e w'=>e=.returned (.bool false)/\w'=w:=by
 by_cases b:n<0
 ·have a:decide (0<=n)=false:=by simp;omega
  clear h
  go_enter func60,ntmps60
  go_wp2_with fail
  go_ret
  exact⟨rfl,rfl⟩
 ·have c:0<=n:=by omega
  have d:¬n<4:=by omega
  clear h
  go_enter func60,ntmps60
  go_wp2_with fail
  go_ret
  exact⟨rfl,rfl⟩
theorem zgJ{w:M}{x:Nat}(se tm val:Int)(a:se<0\/4<=se):
  Calls prog 27 #[.pointer (E ⟨x,0,G⟩),I O se,I O tm,I C val] w fun e w'=>e=.returned (I O 2)/\z2 w.1.size w w':=by
 have b:=fun W=>zd (zbs se W a)
 clear a
 go_enter func27,ntmps27
 go_wp2_with(first|(go_at_call 60;refine(ud (b _)).mono ?_;rintro e f ⟨rfl,d⟩;have c:=d.symm;subst c)|fail)
 go_ret
 exact⟨rfl,z5 _ _⟩
theorem zeA{w:M}{i:Ids}{c:Cf}{ep:Int}{m:MS}(h:zB w i c ep m)(se tm val:Int)(a:0<=se/\se<4)(f:tm<0\/m.now<tm):
  Calls prog 27 #[.pointer (E ⟨i.x,0,G⟩),I O se,I O tm,I C val] w fun e w'=>e=.returned (I O 5)/\z2 w.1.size w w':=by
 obtain⟨-,-,-,-,-,-,-,-,q,-,-⟩:=h.cells
 have p:=h.lt
 have d:=fun W=>zd (vg se W a)
 clear h a
 by_cases k:tm<0
 ·have g:decide (tm<0)=true:=by simpa using k
  clear f
  go_enter func27,ntmps27
  go_wp2_with(first|(go_at_call 60;refine(ud (d _)).mono ?_;rintro e l ⟨rfl,j⟩;have b:=j.symm;subst b)|fail)
  go_ret
  exact⟨rfl,z5 _ _⟩
 ·have g:decide (tm<0)=false:=by simpa using k
  have n:m.now<tm:=by omega
  have o:decide (m.now<tm)=true:=by simpa using n
  clear f
  go_enter func27,ntmps27
  go_wp2_with(first|(go_at_call 60;refine(ud (d _)).mono ?_;rintro e l ⟨rfl,j⟩;have b:=j.symm;subst b)|fail)
  go_ret
  exact⟨rfl,z5 _ _⟩
theorem zez{w:M}{i:Ids}{c:Cf}{ep:Int}{m:MS}(h:zB w i c ep m)(D:c.ok)(se tm val:Int)(j:0<=se/\se<4)(q:0<=tm/\tm<=m.now)(p:tm<m.now-c.la)(t:m.now<=100000):
  Calls prog 27 #[.pointer (E ⟨i.x,0,G⟩),I O se,I O tm,I C val] w fun e w'=>e=.returned (I O 3)/\z2 w.1.size w w':=by
 obtain⟨a,cap,s,r⟩:=h.ts
 obtain⟨P,Q,R,S,T,U,v,V,X,Y,-⟩:=h.cells
 rw[s]at v
 have L:=h.lt
 obtain⟨F,H⟩:=D.la
 have l:=fun W=>zd (Q5 c a cap W)
 have k:=fun W=>zd (vg se W j)
 have y:decide (tm<0)=false:=by simp;omega
 have z:decide (m.now<tm)=false:=by simp;omega
 have A:decide (tm<m.now-c.la)=true:=by simpa using p
 obtain⟨J,K⟩:=q
 clear h r
 go_enter func27,ntmps27
 go_wp2_with(first|(go_at_call 60;refine(ud (k _)).mono ?_;rintro e N ⟨rfl,B⟩;have n:=B.symm;subst n))
 have g:Nonempty (zj w.1.size w):=zj.some _ _
 have f:=fun(u:zj w.1.size w) b o h=>u.cell b o h
 refine ze w.1.size (by kernel_rfl) (by kernel_rfl) ?_
 repeat(go_big_quiet_step (first
  |(go_at_call 61;exact Calls.later (z4 _) (ud (l _)))))
 refine wpQuiet_nil ?_
 rintro⟨Z,d⟩
 dsimp only
 clear f g
 go_wp2_with fail
 go_ret
 exact⟨rfl,d⟩
theorem zcE{w:M}{i:Ids}{c:Cf}{ep:Int}{m:MS}(h:zB w i c ep m)(S:c.ok)(t se wn:Int)(A:t< -1\/c.n<=t\/se<0\/4<=se\/wn<0\/100000<wn):
  Calls prog 57 #[.pointer (E ⟨i.x,0,G⟩),I O t,I O se,I O wn] w fun e w'=>e=.returned (.tuple #[.agg #[I O 0,I O 0,I C 0,I C 0],I O 2])/\z2 w.1.size w w':=by
 obtain⟨a,cap,H,F⟩:=h.ts
 have X:=h.lt
 have p:z2 w.1.size w (w.alloc (.cells #[I O 0,I O 0,I C 0,I C 0] 115)):=(z5 _ _).alloc (z4 _) _
 obtain⟨c0,c1,c2,c3,c4,c5,U,-,c8,c9,-⟩:=(h.later p).cells
 rw[H]at U
 have k:=zd p
 have f:=zd (zr w (.cells #[I O 0,I O 0,I C 0,I C 0] 115))
 have d:w.1.size<(w.alloc (.cells #[I O 0,I O 0,I C 0,I C 0] 115)).1.size:=by rw[zG];omega
 have Y:i.x<(w.alloc (.cells #[I O 0,I O 0,I C 0,I C 0] 115)).1.size:=by rw[zG];omega
 have u:=zd (zbz c S a cap t (w.alloc (.cells #[I O 0,I O 0,I C 0,I C 0] 115)))
 have V:=S.n4
 clear p h F
 by_cases B:t< -1\/c.n<=t
 ·rw[show inB t (-1) ((c.n:Int)-1)=false from by rw[zef];omega]at u
  clear B A
  go_enter func57,ntmps57
  go_wp2_with(first|(go_at_call 116;refine(ud u).mono ?_;rintro e s ⟨rfl,b⟩;obtain⟨K,L,N,P,-⟩:=zc (((b.block w.1.size d).trans (ud f)));have Q:=fun j=>zH ((b.block w.1.size d).trans (ud f)) j;have r:w.1.size<s.1.size:=z3 d b.size;have g:=zd b;clear b)|fail)
  have o:=((ud g).block w.1.size d).trans (ud f)
  have q:=Ya o (I O 0) (I O 0) (I C 0) (I C 0)
  refine bodyPost_ret (v:=.tuple #[.agg #[I O 0,I O 0,I C 0,I C 0],I O 2]) (zp results57 _ _ w.1.size _ _ _ _ _ rfl rfl q underlying115 rfl (by kernel_rfl)) rfl ?_
  exact⟨rfl,(ud k).trans (((ud g).mono (ud k).size).trans (below4 (z4 _) _ _ _ _))⟩
 rw[show inB t (-1) ((c.n:Int)-1)=true from by rw[qG];omega]at u
 by_cases D:se<0\/4<=se
 ·have z:=fun W=>zd (zbs se W D)
  clear B D A
  go_enter func57,ntmps57
  go_wp2_with(first|(go_at_call 116;refine(ud u).mono ?_;rintro e s ⟨rfl,b⟩;obtain⟨K,L,N,P,-⟩:=zc (((b.block w.1.size d).trans (ud f)));have Q:=fun j=>zH ((b.block w.1.size d).trans (ud f)) j;have r:w.1.size<s.1.size:=z3 d b.size;have g:=zd b;clear b)|(go_at_call 60;refine(ud (z _)).mono ?_;rintro e R ⟨rfl,y⟩;have l:=y.symm;subst l)|fail)
  have o:=((ud g).block w.1.size d).trans (ud f)
  have q:=Ya o (I O 0) (I O 0) (I C 0) (I C 0)
  refine bodyPost_ret (v:=.tuple #[.agg #[I O 0,I O 0,I C 0,I C 0],I O 2]) (zp results57 _ _ w.1.size _ _ _ _ _ rfl rfl q underlying115 rfl (by kernel_rfl)) rfl ?_
  exact⟨rfl,(ud k).trans (((ud g).mono (ud k).size).trans (below4 (z4 _) _ _ _ _))⟩
 have z:=fun W=>zd (vg se W (by omega))
 by_cases T:wn<0
 ·have J:decide (wn<0)=true:=by simpa using T
  clear B D A
  go_enter func57,ntmps57
  go_wp2_with(first|(go_at_call 116;refine(ud u).mono ?_;rintro e s ⟨rfl,b⟩;obtain⟨K,L,N,P,-⟩:=zc (((b.block w.1.size d).trans (ud f)));have Q:=fun j=>zH ((b.block w.1.size d).trans (ud f)) j;have r:w.1.size<s.1.size:=z3 d b.size;have g:=zd b;clear b)|(go_at_call 60;refine(ud (z _)).mono ?_;rintro e R ⟨rfl,y⟩;have l:=y.symm;subst l)|fail)
  have o:=((ud g).block w.1.size d).trans (ud f)
  have q:=Ya o (I O 0) (I O 0) (I C 0) (I C 0)
  refine bodyPost_ret (v:=.tuple #[.agg #[I O 0,I O 0,I C 0,I C 0],I O 2]) (zp results57 _ _ w.1.size _ _ _ _ _ rfl rfl q underlying115 rfl (by kernel_rfl)) rfl ?_
  exact⟨rfl,(ud k).trans (((ud g).mono (ud k).size).trans (below4 (z4 _) _ _ _ _))⟩
 have J:decide (wn<0)=false:=by simpa using T
 have Z:100000<wn:=by omega
 have a0:decide (100000<wn)=true:=by simpa using Z
 clear B D A
 go_enter func57,ntmps57
 go_wp2_with(first|(go_at_call 116;refine(ud u).mono ?_;rintro e s ⟨rfl,b⟩;obtain⟨K,L,N,P,-⟩:=zc (((b.block w.1.size d).trans (ud f)));have Q:=fun j=>zH ((b.block w.1.size d).trans (ud f)) j;have r:w.1.size<s.1.size:=z3 d b.size;have g:=zd b;clear b)|(go_at_call 60;refine(ud (z _)).mono ?_;rintro e R ⟨rfl,y⟩;have l:=y.symm;subst l)|fail)
 have o:=((ud g).block w.1.size d).trans (ud f)
 have q:=Ya o (I O 0) (I O 0) (I C 0) (I C 0)
 refine bodyPost_ret (v:=.tuple #[.agg #[I O 0,I O 0,I C 0,I C 0],I O 2]) (zp results57 _ _ w.1.size _ _ _ _ _ rfl rfl q underlying115 rfl (by kernel_rfl)) rfl ?_
 exact⟨rfl,(ud k).trans (((ud g).mono (ud k).size).trans (below4 (z4 _) _ _ _ _))⟩
theorem zgI{w:M}{i:Ids}{c:Cf}{ep:Int}{m:MS}{r:RM}(h:zB w i c ep m)(f:qB c ep m r)(se tm val:Int)(g: -2147483648<=val/\val<=2147483647):
  Calls prog 27 #[.pointer (E ⟨i.x,0,G⟩),I O se,I O tm,I C val] w fun e w'=>e=.returned (I O (xC c m se tm val).2)/\zB w' i c ep (xC c m se tm val).1/\Kx i w w':=by
 have d:=f.sok.ok
 have z:=f.ubound
 by_cases j:se<0\/4<=se
 ·rw[show xC c m se tm val=(m,2)from by unfold xC;rw[if_pos j]]
  exact(zgJ se tm val j).mono fun e w' ⟨b,a⟩=>⟨b,h.later a,h.below a⟩
 by_cases o:tm<0\/m.now<tm
 ·rw[show xC c m se tm val=(m,5)from by unfold xC;rw[if_neg j,if_pos o]]
  exact(zeA h se tm val (by omega) o).mono fun e w' ⟨b,a⟩=>⟨b,h.later a,h.below a⟩
 by_cases q:tm<m.now-c.la
 ·rw[show xC c m se tm val=(m,3)from by unfold xC;rw[if_neg j,if_neg o,if_pos q]]
  exact(zez h f.ok se tm val (by omega) (by omega) q d.now.2).mono fun e w' ⟨b,a⟩=>⟨b,h.later a,h.below a⟩
 have l:∀k:Nat,k<c.n->zS m.Gl (xZ c se tm k)=G:=fun k A=>xm.2 (by
  have:=yV f.ok d (x:=⟨se,tm,val⟩) (t:=(k:Int)) (by show m.now-c.la<=tm;omega) (by omega) (by omega)
  exact this)
 by_cases s:c.qu<zU m.L+(1+2*qK c m.L ⟨se,tm,val⟩ c.n)
 ·rw[show xC c m se tm val=(m,4)from by unfold xC;rw[if_neg j,if_neg o,if_neg q,if_pos s]]
  exact(zey h f.ok se tm val (by omega) (by omega) (by omega) d.now.2 g (by omega) d.seg.st l s).mono fun e w' ⟨b,a⟩=>⟨b,h.later a,h.below a⟩
 ·rw[show xC c m se tm val=({m with L:=yH c m.L ⟨se,tm,val⟩},0)from by unfold xC;rw[if_neg j,if_neg o,if_neg q,if_neg s]]
  refine(ziG h f.ok se tm val (by omega) (by omega) (by omega) d.now.2 g (by omega) d.seg.st l (by omega) (by have:=d.seg.len400 f.ok;omega) (fun p u v=>?_)).mono fun e w' ⟨b,a,y⟩=>⟨b,a,y⟩
  obtain⟨B,D,F,H⟩:=d.seg.raw p u v
  have J:=d.seg.cnt f.ok p u v
  unfold Cl.small
  omega
section
variable {c:Cf} {ep:Int} {m:MS} {r:RM}
theorem Zh.more(h:Zh c m){d:List (Jk×Tsk)}{Q':List (Tok×Lse)}{n':Int}(e:∀k,k∈zo m.TL->k∈zo d):Zh c {m with num:=n',TL:=d,QL:=Q'}:=by
 obtain⟨f,j,g,i⟩:=h
 exact⟨f,j,fun s b a=>e _ (g s b a),fun s b a=>e _ (i s b a)⟩
theorem qB.fail(h:qB c ep m r){e n:Int}{g:Lse}(b:zS m.QL ⟨e,n⟩=E g){x:Tsk}(d:zS m.TL g.job=E x):(r.fail e n).2=0/\qB c ep {m with TL:=qI m.TL g.job (x.failed m.now),QL:=xn m.QL ⟨e,n⟩} (r.fail e n).1:=by
 obtain⟨f,i,j⟩:=zea h.sok.ok h.tsk h.tie.now h.slot e n b d
 refine⟨f,?_⟩
 have a:Yp c ep m r.nu {m with TL:=qI m.TL g.job (x.failed m.now),QL:=xn m.QL ⟨e,n⟩} r.nu:=.failed m r.nu ⟨e,n⟩ g x b d
 rw[i]
 refine⟨h.ok,h.fits,a.ok h.ok h.fits h.sok,⟨h.tie.hc,h.tie.now,h.tie.gone,h.tie.pub,h.tie.inv.act h.ok h.fits h.sok (by have:=h.len;omega) a⟩,j,fun q o=>h.slot q (zL.1 o).1,h.picks,h.epo,h.ghas,h.ng,h.np,h.full,h.comp.more (fun k l=>xg.2 (.inl l))⟩
end
theorem zbm{α β:Type}{f g:β->α->β}:∀(l:List α) (b:β),(∀b a,a∈l->f b a=g b a)->l.foldl f b=l.foldl g b
 |[],b,_=>rfl
 |a::l,b,h=>by
  rw[List.foldl_cons,List.foldl_cons,h b a (by simp)]
  exact zbm l _ (fun b x c=>h b x (by simp[c]))
theorem vH(kind:Int)(s:Sg)(P:Tk->Bool):∀(l:List Tk) (t:Tk),(∀x∈l,P x=false->¬(x.kind=kind/\x.s=s))->(l.filter P).foldl (xQ kind s) t=l.foldl (xQ kind s) t
 |[],t,_=>rfl
 |x::l,t,h=>by
  have a:=fun t=>vH kind s P l t (fun y c=>h y (by simp[c]))
  rw[List.filter_cons,List.foldl_cons]
  cases b:P x with
  |true=>rw[if_pos rfl,List.foldl_cons];exact a _
  |false=>
   rw[if_neg (by decide),a]
   have e:xQ kind s t x=t:=by unfold xQ;rw[if_neg (h x (by simp) b)]
   rw[e]
theorem XD(r:RM)(kd:Int)(s:Sg)(f:yG r kd s (zE r.c r.nu)=false):{r with tk:=r.tk.filter (fun t=>!decide (t.kind=kd/\t.s=s))}.settled.tk=r.settled.tk:=by
 show xJ {r with tk:=r.tk.filter (fun t=>!decide (t.kind=kd/\t.s=s))} (zE r.c r.nu) (zE r.c r.nu).length=xJ r (zE r.c r.nu) (zE r.c r.nu).length
 unfold xJ
 refine zbm _ _ (fun out a k=>?_)
 have d:∀(kind:Int) (o:List Tk),yg {r with tk:=r.tk.filter (fun t=>!decide (t.kind=kd/\t.s=s))} (zE r.c r.nu) kind o a=yg r (zE r.c r.nu) kind o a:=fun kind o=>by
  unfold yg
  have g:yG {r with tk:=r.tk.filter (fun t=>!decide (t.kind=kd/\t.s=s))} kind a (zE r.c r.nu)=yG r kind a (zE r.c r.nu):=rfl
  rw[g]
  by_cases b:yG r kind a (zE r.c r.nu)=true
  ·rw[if_pos b,if_pos b]
   have h:qv {r with tk:=r.tk.filter (fun t=>!decide (t.kind=kd/\t.s=s))} kind a=qv r kind a:=by
    unfold qv
    refine vH kind a _ r.tk _ (fun x l e=>?_)
    simp only[Bool.not_eq_false',decide_eq_true_eq]at e
    rintro⟨i,j⟩
    rw[<-i,<-j,e.1,e.2,f]at b
    cases b
   rw[h]
  ·rw[if_neg b,if_neg b]
 rw[d,d]
section
variable {c:Cf} {ep:Int} {m:MS} {r:RM}
theorem xp.dropped{l:List Tk}(i:MOk c ep m)(h:xp m.TL m.QL l){t:Tok}{g:Lse}(w:zS m.QL t=E g){x:Tsk}(H:zS m.TL g.job=E x):xp (xn m.TL g.job) (xn m.QL t) (l.filter (fun k=>!decide (k.kind=x.kd/\k.s=x.s))):=by
 obtain⟨ts,v,F,rfl⟩:=h
 have f:g.job=x.key:=(i.tk _ (zA H)).key
 have A:=zA w
 have d:∀z:Tsk,(z.kd=x.kd/\z.s=x.s)↔z.key=x.key:=fun z=>by
  unfold Tsk.key
  constructor
  ·rintro⟨a,b⟩;rw[a,b]
  ·intro e;injection e with a b;exact⟨a,b⟩
 refine⟨ts.filter (fun z=>!decide (z.kd=x.kd/\z.s=x.s)),?_,F.filter _,?_⟩
 ·have e:(xn m.TL g.job).map (·.2)=(m.TL.map (·.2)).filter (fun z=>!decide (z.kd=x.kd/\z.s=x.s)):=by
   unfold xn
   rw[List.filter_map]
   refine congrArg (List.map _) (List.filter_congr (fun p D=>?_))
   have j:=(i.tk p D).key
   dsimp only[Function.comp]
   rw[f]
   by_cases e:p.1=x.key
   ·have r:p.2.kd=x.kd/\p.2.s=x.s:=(d p.2).2 (by rw[<-j];exact e)
    simp[e,r]
   ·have r:¬(p.2.kd=x.kd/\p.2.s=x.s):=fun h=>e (by rw[j];exact(d p.2).1 h)
    simp only[e,r,decide_false,Bool.not_false,ne_eq,not_false_eq_true,decide_true]
  rw[e]
  exact v.filter _
 ·rw[List.filter_map]
  have y:((fun k:Tk=>!decide (k.kind=x.kd/\k.s=x.s))∘kM m.QL)=fun z=>!decide (z.kd=x.kd/\z.s=x.s):=rfl
  rw[y]
  refine List.map_congr_left (fun z J=>?_)
  have u:z.key≠x.key:=fun e=>by
   have:=(List.mem_filter.1 J).2
   rw[decide_eq_true ((d z).2 e)]at this
   cases this
  refine vq (Xd i.jobs (ju i.jobs t) (fun q B=>?_))
  rw[zL]
  constructor
  ·refine fun o=>⟨o,fun e=>u ?_⟩
   have n:zS m.QL q.1=E q.2:=xu i.nq o
   rw[e,w]at n
   injection n with n
   rw[<-B,<-n,f]
  ·exact fun o=>o.1
theorem qB.roll(h:qB c ep m r){e n:Int}{g:Lse}{s:Sg}{si tc rest:Int}{k:Nat}(y:zS m.QL ⟨e,n⟩=E g)(w:zS m.TL g.job=E ⟨true,s,si,tc,rest⟩)(P:s.t=k){f:List (Jk×Tsk)}
  (F:qD c {m with L:=yL m.L s ⟨3,qc (vo c m.L s.se s.wn k)⟩,Gl:=m.Gl,TL:=xn m.TL g.job,QL:=xn m.QL ⟨e,n⟩} f):
  (r.commit e n).2=0/\qB c ep {m with L:=yL m.L s ⟨3,qc (vo c m.L s.se s.wn k)⟩,Gl:=m.Gl,TL:=f,QL:=xn m.QL ⟨e,n⟩} (r.commit e n).1:=by
 obtain⟨j,S,T⟩:=Xe h.sok.ok h.tsk h.slot e n y w
 have U:r.commit e n=({r with pub:=r.pub++[s]}.settled,0):=by
  unfold RM.commit
  rw[S]
  simp only[T,Option.getD_some]
  unfold RM.done
  rw[if_pos (show(kM m.QL ⟨true,s,si,tc,rest⟩).kind=1 from rfl)]
  rfl
 rw[U]
 refine⟨rfl,?_⟩
 have u:=h.sok.ok
 have Q:=u.tk _ (zA w)
 have l:s∈zl m.L:=Q.mem
 have H:(stL m.L s).st=2:=Q.roll rfl
 have B:=(u.rolled y w rfl (qc (vo c m.L s.se s.wn k))).1
 have z:=h.tie.inv.rolled h.ok h.fits u (by have:=h.len;omega) w P (xn m.QL ⟨e,n⟩)
 have p:¬s∈r.pub:=fun W=>by
  rcases h.inPub.1 W with⟨v,hv,d⟩|⟨-,d⟩
  ·rw[kV u.seg.nl (zN l) hv]at H;omega
  ·exact u.seg.disj _ (zN l) d
 have o:∀i,vv i (r.pub++[s])=true↔Pub (yL m.L s ⟨3,qc (vo c m.L s.se s.wn k)⟩) i\/(0<=i.t/\i∈zo m.Gl):=fun i=>by
  have:vv i (r.pub++[s])=true↔i∈r.pub\/i=s:=by unfold vv;simp
  rw[this,h.inPub]
  constructor
  ·rintro((⟨v,hv,d⟩|d)|rfl)
   ·by_cases e:i=s
    ·rw[e];exact .inl ⟨_,KT,rfl⟩
    ·exact .inl ⟨v,KU hv e,d⟩
   ·exact .inr d
   ·exact .inl ⟨_,KT,rfl⟩
  ·rintro(⟨v,hv,d⟩|d)
   ·rcases xS hv with e|⟨hv,-⟩
    ·injection e with R X;exact .inr R
    ·exact .inl (.inl ⟨v,hv,d⟩)
   ·exact .inl (.inr d)
 have J:zaY c {m with L:=yL m.L s ⟨3,qc (vo c m.L s.se s.wn k)⟩,Gl:=m.Gl,TL:=xn m.TL g.job,QL:=xn m.QL ⟨e,n⟩} {r with pub:=r.pub++[s],tk:=r.tk.filter (fun t=>!decide (t.kind=(1:Int)/\t.s=s))}:=⟨h.tie.hc,h.tie.now,h.tie.gone,o,z⟩
 have A:xp (xn m.TL g.job) (xn m.QL ⟨e,n⟩) (r.tk.filter (fun t=>!decide (t.kind=(1:Int)/\t.s=s))):=h.tsk.dropped u y w
 have x:=jB h.ok h.fits B J A F
 rw[show({r with pub:=r.pub++[s],tk:=r.tk.filter (fun t=>!decide (t.kind=(1:Int)/\t.s=s))}:RM).settled.tk=({r with pub:=r.pub++[s]}:RM).settled.tk from XD {r with pub:=r.pub++[s]} 1 s (by
  unfold yG
  rw[if_pos rfl]
  unfold qt yT
  have:vv s ({r with pub:=r.pub++[s]}:RM).pub=true:=kz (by simp)
  rw[this];simp)]at x
 have K:Yp c ep m r.nu {m with L:=yL m.L s ⟨3,qc (vo c m.L s.se s.wn k)⟩,Gl:=m.Gl,TL:=f,QL:=xn m.QL ⟨e,n⟩} r.nu:=.rolled m r.nu ⟨e,n⟩ g s si tc rest k f y w P F
 refine⟨h.ok,h.fits,K.ok h.ok h.fits h.sok,⟨h.tie.hc,h.tie.now,h.tie.gone,o,h.tie.inv.act h.ok h.fits h.sok (by have:=h.len;omega) K⟩,x,fun q V=>h.slot q (zL.1 V).1,h.picks,h.epo,h.ghas,h.ng,?_,h.full,Zh.of F⟩
 show(r.pub++[s]).Nodup
 rw[List.nodup_append]
 exact⟨h.np,by simp,fun a D b N e=>by simp at N;subst N;subst e;exact p D⟩
theorem qB.reclaim(h:qB c ep m r){e n:Int}{g:Lse}{s:Sg}{si tc rest:Int}(z:zS m.QL ⟨e,n⟩=E g)(w:zS m.TL g.job=E ⟨false,s,si,tc,rest⟩){k:List (Jk×Tsk)}
  (N:qD c {m with L:=xn m.L s,Gl:=qI m.Gl s (),TL:=xn m.TL g.job,QL:=xn m.QL ⟨e,n⟩} k):
  (r.commit e n).2=0/\qB c ep {m with L:=xn m.L s,Gl:=qI m.Gl s (),TL:=k,QL:=xn m.QL ⟨e,n⟩} (r.commit e n).1:=by
 obtain⟨j,U,V⟩:=Xe h.sok.ok h.tsk h.slot e n z w
 have W:r.commit e n=({r with gone:=r.gone++[s]}.settled,0):=by
  unfold RM.commit
  rw[U]
  simp only[V,Option.getD_some]
  unfold RM.done
  rw[if_neg (by show¬((2:Int)=1);decide)]
  rfl
 rw[W]
 refine⟨rfl,?_⟩
 have o:=h.sok.ok
 have T:=o.tk _ (zA w)
 have f:s∈zl m.L:=T.mem
 have P:(stL m.L s).st≠2:=T.recl rfl
 have J:=(o.reclaimed z w rfl).1
 have D:=h.tie.inv.reclaimed h.ok h.fits o w (xn m.QL ⟨e,n⟩)
 have B:¬s∈r.gone:=fun Y=>o.seg.disj _ (zN f) (h.inGl.1 Y)
 have i:∀d,vv d (r.gone++[s])=true↔d∈zo (qI m.Gl s ()):=fun d=>by
  have:vv d (r.gone++[s])=true↔d∈r.gone\/d=s:=by unfold vv;simp
  rw[this,h.inGl,xg]
 have p:∀d,vv d r.pub=true↔Pub (xn m.L s) d\/(0<=d.t/\d∈zo (qI m.Gl s ())):=fun d=>by
  rw[h.tie.pub,xg]
  constructor
  ·rintro(⟨v,hv,l⟩|⟨l,x⟩)
   ·by_cases e:d=s
    ·refine .inr ⟨?_,.inr e⟩
     have F:=o.seg.inr _ hv
     by_cases Z:d.t= -1
     ·have:=(o.seg.raw _ hv Z).1
      dsimp only at this;omega
     ·have:=F.2.1
      dsimp only at this;omega
    ·exact .inl ⟨v,zL.2 ⟨hv,e⟩,l⟩
   ·exact .inr ⟨l,.inl x⟩
  ·rintro(⟨v,hv,l⟩|⟨l,x|x⟩)
   ·exact .inl ⟨v,(zL.1 hv).1,l⟩
   ·exact .inr ⟨l,x⟩
   ·left
    rw[x]at l ⊢
    rcases o.seg.tier _ (zN f) l with A|A
    ·exact absurd A P
    ·exact⟨_,zN f,A⟩
 have Q:zaY c {m with L:=xn m.L s,Gl:=qI m.Gl s (),TL:=xn m.TL g.job,QL:=xn m.QL ⟨e,n⟩} {r with gone:=r.gone++[s],tk:=r.tk.filter (fun t=>!decide (t.kind=(2:Int)/\t.s=s))}:=⟨h.tie.hc,h.tie.now,i,p,D⟩
 have H:xp (xn m.TL g.job) (xn m.QL ⟨e,n⟩) (r.tk.filter (fun t=>!decide (t.kind=(2:Int)/\t.s=s))):=h.tsk.dropped o z w
 have y:=jB h.ok h.fits J Q H N
 rw[show({r with gone:=r.gone++[s],tk:=r.tk.filter (fun t=>!decide (t.kind=(2:Int)/\t.s=s))}:RM).settled.tk=({r with gone:=r.gone++[s]}:RM).settled.tk from XD {r with gone:=r.gone++[s]} 2 s (by
  unfold yG
  rw[if_neg (by decide)]
  unfold qJ qF
  have:vv s ({r with gone:=r.gone++[s]}:RM).gone=true:=kz (by simp)
  rw[this];simp)]at y
 have R:Yp c ep m r.nu {m with L:=xn m.L s,Gl:=qI m.Gl s (),TL:=k,QL:=xn m.QL ⟨e,n⟩} r.nu:=.reclaimed m r.nu ⟨e,n⟩ g s si tc rest k z w N
 refine⟨h.ok,h.fits,R.ok h.ok h.fits h.sok,⟨h.tie.hc,h.tie.now,i,p,h.tie.inv.act h.ok h.fits h.sok (by have:=h.len;omega) R⟩,y,fun q X=>h.slot q (zL.1 X).1,h.picks,h.epo,fun d u=>?_,?_,h.np,h.full,Zh.of N⟩
 ·rcases xg.1 u with u|rfl
  ·exact h.ghas d u
  ·exact h.tie.inv.has _ f
 ·show(r.gone++[s]).Nodup
  rw[List.nodup_append]
  exact⟨h.ng,by simp,fun a K b S e=>by simp at S;subst S;subst e;exact B K⟩
theorem qB.new(a:c.ok)(b:c.fits):qB c ep ⟨0,[],[],0,[],[]⟩ ⟨c,0,[],[],[],[],ep,0⟩:=by
 refine⟨a,b,SOk.new a,⟨rfl,rfl,fun s=>by simp[vv,zo],fun s=>by simp[vv,zo,Pub],Zi.start c 0⟩,⟨[],by simp,by simp,rfl⟩,by simp,rfl,rfl,by simp[zo],by simp,by simp,fun T=>by simp[qY],⟨[],fun x=>by simp[zo,zl],by simp[zl],by simp[zl]⟩⟩
end
theorem zfI{w:M}{b d:Nat}{i:Ids}{c:Cf}{ct y z:z1}{ep s:Int}{m:MS}(h:zB w i c ep m)(F:c.ok)(B:0<=zU m.L/\zU m.L<=1000)(f:m.L.length<=100000)(r:Cf)(u:w.1[b]?=E (zD i.x d r ct y z s)):
  Calls prog 76 #[.pointer (E ⟨b,0,G⟩),.pointer (E ⟨i.x,0,G⟩)] w fun e w'=>e=.returned (.bool (decide (s<ep)))/\w'.1[b]?=E (zD i.x d r ct y z ep)/\zk (fun k=>k=b) w w':=by
 have q:=zd (K0 h F B f)
 generalize zU m.L=U at*
 generalize xy m.L 1=A1 at*
 generalize xy m.L 2=A2 at*
 generalize xy m.L 3=A3 at*
 generalize m.Gl.length=A4 at*
 generalize yi (vK U c.qu)=T at*
 generalize i.x=x at*
 have v:=zb u
 have D:=zd u
 clear h u B f
 go_enter func76,ntmps76
 go_wp2_with fail
 refine(ud q).mono ?_
 rintro e n ⟨rfl,g⟩
 have a:=(g.block b v).trans (ud D)
 have H:n.cell? ⟨b,12,G⟩=E (I O s):=by unfold zD at a;rw[xd a];rfl
 have J:∀j,n.frozen? ⟨b,j,G⟩=false:=fun j=>by unfold zD at a;exact zH a j
 have A:=zb a
 have p:=zd a
 have o:=zd g
 clear a g
 go_wp2_with fail
 go_region
 go_wp2_with fail
 go_ret
 have t:zk (fun k=>k=b) w n:=zk.of_below (ud o)
 have l:(n.setCell ⟨b,12,G⟩ (I O ep)).1[b]?=E (zD x d r ct y z ep):=by
  have:=ud p
  unfold zD at this
  exact xi (i:=12) this _
 exact⟨rfl,(Below.heap_alloc _ _ _ (zb l)).trans l,((zq t rfl).alloc _).drew⟩
theorem Jw(tg:List Tok)(o:Ops)(y: -9223372036854775808<=o.a/\o.a<=9223372036854775807)(D:(⟨o.te,o.tn⟩:Tok).wf)(A:∀t∈tg,t.wf)(L:tg.length<=1099511627776):
  ∃t:Tok,t.wf/\∀(w:M) (q x d:Nat) (m:Cf) (ct u r:z1) (s:Int),w.1[q]?=E (zD x d m ct u r s)->w.ownsRow 0 49 2 r tg.length (tg.flatMap zjx)->
   Calls prog 139 #[.pointer (E ⟨q,0,G⟩),.agg #[I O o.kd,I O o.on,I O o.a,I O o.b,I O o.c,I C o.v,I O o.te,I O o.tn,I O o.fs,I O o.fe,I O o.fb,I O o.fw,I O o.fk,I O o.fq,.slice o.fa o.fn o.fc]] w fun e w'=>e=.returned (.agg #[I O t.ep,I O t.num])/\z2 w.1.size w w':=by
 by_cases F:o.b=0
 ·by_cases B:tg=[]
  ·subst B
   refine⟨⟨o.te,o.tn⟩,D,fun w q x d m ct u r s n h=>?_⟩
   obtain⟨a,cap,rfl⟩:=zm h
   exact zdy m n o
  ·have p:0<tg.length:=List.length_pos_iff.2 B
   obtain⟨i,N,z⟩:=zeQ o.a tg.length y p
   have H:tg.length-1-i<tg.length:=by omega
   have l:tg[tg.length-1-i]?=E tg[tg.length-1-i]:=List.getElem?_eq_getElem H
   generalize K:tg.length-1-i=j at*
   generalize tg[j]=t at*
   refine⟨t,A t (List.mem_of_getElem? l),fun w q x d m ct u r s n h=>?_⟩
   obtain⟨g,cap,rfl,-,J⟩:=h.form (by omega)
   refine zdz m n o F J (i:=i) (j:=j) (by omega) H L z ?_ ?_
   ·rw[h.cellAt (j*2) (by omega)]
    exact qw (f:=zjx) (k:=2) (fun _=>rfl) tg j t 0 l (by omega)
   ·rw[h.cellAt (j*2+1) (by omega)]
    exact qw (f:=zjx) (k:=2) (fun _=>rfl) tg j t 1 l (by omega)
 ·exact⟨⟨o.te,o.tn⟩,D,fun w q x d m ct u r s n h=>zfN m n o F⟩
theorem VZ{w:M}{base:Nat}{e:TypeId}{size:Nat}{v:z1}{n:Nat}{xs:List z1}(h:w.ownsRow base e size v n xs):∀k,v.ownBlock=E k->base<=k:=fun k a=>by
 rcases h.2 with⟨rfl,_⟩|⟨g,cap,b,rfl,c,_⟩
 ·simp[Value.ownBlock]at a
 ·simp[Value.ownBlock]at a;subst a;exact c
def kD(B:Nat)(X:M)(q:Nat)(m':RM)(tv nv pv gv kv:z1)(V:M):Prop:=∃d b a c,zQ B V q m' tv d b a c/\(∀k,b.ownBlock=E k->¬a.ownBlock=E k)/\zk (jd q tv nv pv gv kv) X V/\∀k,jd q tv d b a c k->jd q tv nv pv gv kv k\/X.1.size<=k
theorem kD.kept{B:Nat}{X:M}{q:Nat}{m':RM}{tv nv pv gv kv:z1}{V:M}(h:kD B X q m' tv nv pv gv kv V):zk (jd q tv nv pv gv kv) X V:=by
 obtain⟨_,_,_,_,_,_,h,_⟩:=h
 exact h
theorem zbJ{B:Nat}{w:M}{q:Nat}{m:RM}{tv nv pv gv kv:z1}(h:zQ B w q m tv nv pv gv kv):∀k,jd q tv nv pv gv kv k->B<=k/\k<w.1.size:=fun k a=>by
 rcases a with rfl|a|a|a|a|a
 ·exact⟨h.base,h.lt⟩
 ·exact⟨VZ h.trow k a,vY h.trow k a⟩
 ·exact⟨VZ h.nrow k a,vY h.nrow k a⟩
 ·exact⟨VZ h.prow k a,vY h.prow k a⟩
 ·exact⟨VZ h.grow k a,vY h.grow k a⟩
 ·exact⟨VZ h.krow k a,vY h.krow k a⟩
theorem ZL{B N:Nat}{w X V Z:M}{q:Nat}{m':RM}{tv nv pv gv kv:z1}(v:∀k,jd q tv nv pv gv kv k->B<=k/\k<w.1.size)(c:z2 w.1.size w X)(y:X.1.size=w.1.size+N)(u:kD B X q m' tv nv pv gv kv V){g:Nat}(a:zk (fun k=>k=g) V Z)(s:w.1.size<=g:=by omega)(t:g<X.1.size:=by omega):kD B w q m' tv nv pv gv kv Z:=by
 obtain⟨l,m,b,j,o,p,r,n⟩:=u
 refine⟨l,m,b,j,o.kept a (fun k d e=>?_),p,((zk.of_below (f:=jd q tv nv pv gv kv) c).trans r (fun _ _ h=>h)).trans a (fun i x e=>?_),fun k d=>?_⟩
 ·rcases n k d with h|h
  ·have:=(v k h).2;omega
  ·omega
 ·omega
 ·rcases n k d with h|h
  ·exact .inl h
  ·exact .inr (by omega)
theorem zgc{w:M}{t d:Nat}{i:Ids}{c:Cf}{ct mv td:z1}{ep eo:Int}(c':Cf)(T:w.1[t]?=E (zD i.x d c' ct mv td eo))(Y:¬zT w i t)(h:FLt w i)(o:Ops)(te tn:Int)(A:Int->MS->Prop)
  (B:∀X,z2 w.1.size w X->Calls prog 27 #[.pointer (E ⟨i.x,0,G⟩),I O o.a,I O o.b,I C o.v] X fun e V=>∃(k:Int) (m':MS),e=.returned (I O k)/\zB V i c ep m'/\Kx i X V/\A k m'):
  Calls prog 140 #[.pointer (E ⟨t,0,G⟩),.agg #[I O 2,I O o.on,I O o.a,I O o.b,I O o.c,I C o.v,I O o.te,I O o.tn,I O o.fs,I O o.fe,I O o.fb,I O o.fw,I O o.fk,I O o.fq,.slice o.fa o.fn o.fc],.agg #[I O te,I O tn]] w fun e w'=>∃(k:Int) (m':MS),e=.returned (.tuple #[.agg #[I O 0,I O 0,I O 0,I O 0,I O 0,I O 0,I O 0,I O 0,I O 0,I O 0,I O 0],I O k])/\zB w' i c ep m'/\Kx i w w'/\A k m':=by
 obtain⟨y0,y1,y2,f,yz⟩:=Ys w (.cells #[I O 2,I O o.on,I O o.a,I O o.b,I O o.c,I C o.v,I O o.te,I O o.tn,I O o.fs,I O o.fe,I O o.fb,I O o.fw,I O o.fk,I O o.fq,.slice o.fa o.fn o.fc] 82) (.cells #[I O te,I O tn] 49) (.cells #[I O 0,I O 0,I O 0,I O 0,I O 0,I O 0,I O 0,I O 0,I O 0,I O 0,I O 0] 51)
 have N:=fun(V:M) (hb:z2 w.1.size w V)=>zd (B V hb)
 have m:=zd h
 have W:=zb T
 have HP:=zd T
 clear T B
 go_enter func140,ntmps140
 go_wp2_with fail
 generalize(((w.alloc (.cells #[I O 2,I O o.on,I O o.a,I O o.b,I O o.c,I C o.v,I O o.te,I O o.tn,I O o.fs,I O o.fe,I O o.fb,I O o.fw,I O o.fk,I O o.fq,.slice o.fa o.fn o.fc] 82)).alloc (.cells #[I O te,I O tn] 49)).alloc (.cells #[I O 0,I O 0,I O 0,I O 0,I O 0,I O 0,I O 0,I O 0,I O 0,I O 0,I O 0] 51))=X at*
 have P:=N X f
 have Q:=N X.drew f.drew
 clear N
 have s:=(f.block t W).trans (ud HP)
 have z0:X.cell? ⟨t,0,G⟩=E (.pointer (E ⟨i.x,0,G⟩)):=by unfold zD at s;rw[xd s];rfl
 obtain⟨-,-,u,y,-,z,-⟩:=zc y0
 have U:t<X.1.size:=by omega
 have j:w.1.size<X.1.size:=by omega
 have a0:w.1.size+1<X.1.size:=by omega
 have r:¬zT w i w.1.size:=fun e=>by have:=h.foot _ e;omega
 have a2:¬zT w i (w.1.size+1):=fun e=>by have:=h.foot _ e;omega
 have S:¬zT w i (w.1.size+2):=fun e=>by have:=h.foot _ e;omega
 have R:w.1.size+2<X.1.size:=by omega
 have Y2:=zd y2
 have l:=zd f
 have Z:=zd yz
 clear y0 y1 y2 f yz s h
 go_region_held3 (fun w'=>w'.cell? ⟨t,0,G⟩=E (.pointer (E ⟨i.x,0,G⟩))/\w'.cell? ⟨w.1.size,2,G⟩=E (I O o.a)/\w'.cell? ⟨w.1.size,3,G⟩=E (I O o.b)/\w'.cell? ⟨w.1.size,5,G⟩=E (I C o.v)) (go_keep) (first
  |(go_at_call 27;(first|refine(ud Q).mono ?_|refine(ud P).mono ?_);rintro e V ⟨k,m',rfl,hm,K,ha⟩;have q:Kx i X V:=zes K;have p:zk (zT w i) X V:=(ud m).kept (ud l) q;have D:=zd q;clear K q;have L:=zd ha;have F:=zd hm;have v0:=(zF (i:=0) p Y U).trans z0;have a4:=(zF (i:=2) p r j).trans u;have a5:=(zF (i:=3) p r j).trans y;have a6:=(zF (i:=5) p r j).trans z;have n:=zd ((p.block (w.1.size+2) R S).trans (ud Y2));have a1:=zd p;clear hm p ha))
 have jf:=fun i=>zH (ud n) i
 obtain⟨j0,j1,j2,j3,j4,j5,j6,j7,j8,j9,a3⟩:=z11 (ud n)
 go_wp2_with(go_at_call 135;refine(KO _ _).mono ?_;rintro e V1 ⟨rfl,J⟩;rw[J];clear J)
 have hf:=zhh (ud n) (I O 0) (I O 0) (I O 0) (I O 0) (I O 0) (I O 0) (I O 0) (I O 0) (I O 0) (I O 0) (I O 0)
 have H:=zbw (w:=V) (g:=w.1.size+2) (I O 0) (I O 0) (I O 0) (I O 0) (I O 0) (I O 0) (I O 0) (I O 0) (I O 0) (I O 0) (I O 0)
 refine bodyPost_ret (v:=.tuple #[.agg #[I O 0,I O 0,I O 0,I O 0,I O 0,I O 0,I O 0,I O 0,I O 0,I O 0,I O 0],I O k]) (zp results140 _ _ (w.1.size+2) _ _ _ _ _ rfl rfl hf underlying51 rfl (by kernel_rfl)) rfl ?_
 exact⟨k,m',rfl,((ud m).close (ud l) (ud F) (ud D) H (by omega) (by have:=ud Z;omega)).1,((ud m).close (ud l) (ud F) (ud D) H (by omega) (by have:=ud Z;omega)).2,ud L⟩
theorem zgd{w:M}{q d:Nat}{i:Ids}{c:Cf}{ct mv td:z1}{ep eo:Int}(c':Cf)(R:w.1[q]?=E (zD i.x d c' ct mv td eo))(U:¬zT w i q)(h:FLt w i)(o:Ops)(te tn:Int)(s:Int->MS->Prop)
  (t:∀X,z2 w.1.size w X->Calls prog 26 #[.pointer (E ⟨i.x,0,G⟩),I O o.a] X fun e V=>∃(j:Int) (m':MS),e=.returned (I O j)/\zB V i c ep m'/\Kx i X V/\s j m'):
  Calls prog 140 #[.pointer (E ⟨q,0,G⟩),.agg #[I O 3,I O o.on,I O o.a,I O o.b,I O o.c,I C o.v,I O o.te,I O o.tn,I O o.fs,I O o.fe,I O o.fb,I O o.fw,I O o.fk,I O o.fq,.slice o.fa o.fn o.fc],.agg #[I O te,I O tn]] w fun e w'=>∃(j:Int) (m':MS),e=.returned (.tuple #[.agg #[I O 0,I O 0,I O 0,I O 0,I O 0,I O 0,I O 0,I O 0,I O 0,I O 0,I O 0],I O j])/\zB w' i c ep m'/\Kx i w w'/\s j m':=by
 obtain⟨y0,y1,y2,f,yz⟩:=Ys w (.cells #[I O 3,I O o.on,I O o.a,I O o.b,I O o.c,I C o.v,I O o.te,I O o.tn,I O o.fs,I O o.fe,I O o.fb,I O o.fw,I O o.fk,I O o.fq,.slice o.fa o.fn o.fc] 82) (.cells #[I O te,I O tn] 49) (.cells #[I O 0,I O 0,I O 0,I O 0,I O 0,I O 0,I O 0,I O 0,I O 0,I O 0,I O 0] 51)
 have J:=fun(V:M) (hb:z2 w.1.size w V)=>zd (t V hb)
 have l:=zd h
 have T:=zb R
 have HP:=zd R
 clear R t
 go_enter func140,ntmps140
 go_wp2_with fail
 generalize(((w.alloc (.cells #[I O 3,I O o.on,I O o.a,I O o.b,I O o.c,I C o.v,I O o.te,I O o.tn,I O o.fs,I O o.fe,I O o.fb,I O o.fw,I O o.fk,I O o.fq,.slice o.fa o.fn o.fc] 82)).alloc (.cells #[I O te,I O tn] 49)).alloc (.cells #[I O 0,I O 0,I O 0,I O 0,I O 0,I O 0,I O 0,I O 0,I O 0,I O 0,I O 0] 51))=X at*
 have K:=J X f
 have L:=J X.drew f.drew
 clear J
 have p:=(f.block q T).trans (ud HP)
 have z0:X.cell? ⟨q,0,G⟩=E (.pointer (E ⟨i.x,0,G⟩)):=by unfold zD at p;rw[xd p];rfl
 obtain⟨-,-,r,-⟩:=zc y0
 have S:q<X.1.size:=by omega
 have F:w.1.size<X.1.size:=by omega
 have a0:w.1.size+1<X.1.size:=by omega
 have P:¬zT w i w.1.size:=fun e=>by have:=h.foot _ e;omega
 have a2:¬zT w i (w.1.size+1):=fun e=>by have:=h.foot _ e;omega
 have Q:¬zT w i (w.1.size+2):=fun e=>by have:=h.foot _ e;omega
 have N:w.1.size+2<X.1.size:=by omega
 have Y2:=zd y2
 have k:=zd f
 have W:=zd yz
 clear y0 y1 y2 f yz p h
 go_region_held3 (fun w'=>w'.cell? ⟨q,0,G⟩=E (.pointer (E ⟨i.x,0,G⟩))/\w'.cell? ⟨w.1.size,2,G⟩=E (I O o.a)) (go_keep) (first
  |(go_at_call 26;(first|refine(ud L).mono ?_|refine(ud K).mono ?_);rintro e V ⟨j,m',rfl,Z,D,Y⟩;have n:Kx i X V:=zes D;have B:zk (zT w i) X V:=(ud l).kept (ud k) n;have u:=zd n;clear D n;have H:=zd Y;have y:=zd Z;have v0:=(zF (i:=0) B U S).trans z0;have a4:=(zF (i:=2) B P F).trans r;have m:=zd ((B.block (w.1.size+2) N Q).trans (ud Y2));have a1:=zd B;clear Z B Y))
 have jf:=fun i=>zH (ud m) i
 obtain⟨j0,j1,j2,j3,j4,j5,j6,j7,j8,j9,a3⟩:=z11 (ud m)
 go_wp2_with(go_at_call 135;refine(KO _ _).mono ?_;rintro e V1 ⟨rfl,A⟩;rw[A];clear A)
 have hf:=zhh (ud m) (I O 0) (I O 0) (I O 0) (I O 0) (I O 0) (I O 0) (I O 0) (I O 0) (I O 0) (I O 0) (I O 0)
 have z:=zbw (w:=V) (g:=w.1.size+2) (I O 0) (I O 0) (I O 0) (I O 0) (I O 0) (I O 0) (I O 0) (I O 0) (I O 0) (I O 0) (I O 0)
 refine bodyPost_ret (v:=.tuple #[.agg #[I O 0,I O 0,I O 0,I O 0,I O 0,I O 0,I O 0,I O 0,I O 0,I O 0,I O 0],I O j]) (zp results140 _ _ (w.1.size+2) _ _ _ _ _ rfl rfl hf underlying51 rfl (by kernel_rfl)) rfl ?_
 exact⟨j,m',rfl,((ud l).close (ud k) (ud y) (ud u) z (by omega) (by have:=ud W;omega)).1,((ud l).close (ud k) (ud y) (ud u) z (by omega) (by have:=ud W;omega)).2,ud H⟩
theorem zjI{B:Nat}{w:M}{q:Nat}{m:RM}{tv nv pv gv kv:z1}(h:zQ B w q m tv nv pv gv kv)(o:Ops)(te tn:Int){r:Int}{m':RM}
  (j:∀X,z2 w.1.size w X->Calls prog 211 #[.pointer (E ⟨q,0,G⟩),I O o.a,I O o.b,I C o.v] X fun e V=>e=.returned (I O r)/\kD B X q m' tv nv pv gv kv V):
  Calls prog 142 #[.pointer (E ⟨q,0,G⟩),.agg #[I O 2,I O o.on,I O o.a,I O o.b,I O o.c,I C o.v,I O o.te,I O o.tn,I O o.fs,I O o.fe,I O o.fb,I O o.fw,I O o.fk,I O o.fq,.slice o.fa o.fn o.fc],.agg #[I O te,I O tn]] w fun e w'=>e=.returned (.tuple #[.agg #[I O 0,I O 0,I O 0,I O 0,I O 0,I O 0,I O 0,I O 0,I O 0,I O 0,I O 0],I O r])/\kD B w q m' tv nv pv gv kv w':=by
 obtain⟨K,L,x,f,y⟩:=Ys w (.cells #[I O 2,I O o.on,I O o.a,I O o.b,I O o.c,I C o.v,I O o.te,I O o.tn,I O o.fs,I O o.fe,I O o.fb,I O o.fw,I O o.fk,I O o.fq,.slice o.fa o.fn o.fc] 82) (.cells #[I O te,I O tn] 49) (.cells #[I O 0,I O 0,I O 0,I O 0,I O 0,I O 0,I O 0,I O 0,I O 0,I O 0,I O 0] 51)
 have z:=zd (j _ f)
 have k:=zd (zbJ h)
 have H:=h.lt
 clear h j
 go_enter func142,ntmps142
 have A:=zd x
 have n:=zd f
 have u:=zd y
 clear K L x f y
 go_wp2_with fail
 generalize(((w.alloc (.cells #[I O 2,I O o.on,I O o.a,I O o.b,I O o.c,I C o.v,I O o.te,I O o.tn,I O o.fs,I O o.fe,I O o.fb,I O o.fw,I O o.fk,I O o.fq,.slice o.fa o.fn o.fc] 82)).alloc (.cells #[I O te,I O tn] 49)).alloc (.cells #[I O 0,I O 0,I O 0,I O 0,I O 0,I O 0,I O 0,I O 0,I O 0,I O 0,I O 0] 51))=X at*
 refine(ud z).mono ?_
 rintro e V ⟨rfl,t⟩
 have F:w.1.size+2<X.1.size:=by rw[ud u];omega
 have l:=t.kept.heap (ud A) (fun e=>by have:=(ud k _ e).2;omega)
 have d:=zd l
 have p:=zd t
 clear t l
 obtain⟨N,P,Q,R,S,T,U,W,Y,Z,J⟩:=z11 (ud d)
 have jf:=fun i=>zH (ud d) i
 have jl:=zb (ud d)
 go_wp2_with fail
 have D:=zhh (ud d) (I O 0) (I O 0) (I O 0) (I O 0) (I O 0) (I O 0) (I O 0) (I O 0) (I O 0) (I O 0) (I O 0)
 have s:=zbw (w:=V) (g:=w.1.size+2) (I O 0) (I O 0) (I O 0) (I O 0) (I O 0) (I O 0) (I O 0) (I O 0) (I O 0) (I O 0) (I O 0)
 refine bodyPost_ret (v:=.tuple #[.agg #[I O 0,I O 0,I O 0,I O 0,I O 0,I O 0,I O 0,I O 0,I O 0,I O 0,I O 0],I O r]) (zp results142 _ _ (w.1.size+2) _ _ _ _ _ rfl rfl D underlying51 rfl (by kernel_rfl)) rfl ?_
 exact⟨rfl,ZL (ud k) (ud n) (ud u) (ud p) s⟩
theorem zjJ{B:Nat}{w:M}{q:Nat}{m:RM}{tv nv pv gv kv:z1}(h:zQ B w q m tv nv pv gv kv)(o:Ops)(te tn:Int){r:Int}{m':RM}
  (j:∀X,z2 w.1.size w X->Calls prog 212 #[.pointer (E ⟨q,0,G⟩),I O o.a] X fun e V=>e=.returned (I O r)/\kD B X q m' tv nv pv gv kv V):
  Calls prog 142 #[.pointer (E ⟨q,0,G⟩),.agg #[I O 3,I O o.on,I O o.a,I O o.b,I O o.c,I C o.v,I O o.te,I O o.tn,I O o.fs,I O o.fe,I O o.fb,I O o.fw,I O o.fk,I O o.fq,.slice o.fa o.fn o.fc],.agg #[I O te,I O tn]] w fun e w'=>e=.returned (.tuple #[.agg #[I O 0,I O 0,I O 0,I O 0,I O 0,I O 0,I O 0,I O 0,I O 0,I O 0,I O 0],I O r])/\kD B w q m' tv nv pv gv kv w':=by
 obtain⟨K,L,x,f,y⟩:=Ys w (.cells #[I O 3,I O o.on,I O o.a,I O o.b,I O o.c,I C o.v,I O o.te,I O o.tn,I O o.fs,I O o.fe,I O o.fb,I O o.fw,I O o.fk,I O o.fq,.slice o.fa o.fn o.fc] 82) (.cells #[I O te,I O tn] 49) (.cells #[I O 0,I O 0,I O 0,I O 0,I O 0,I O 0,I O 0,I O 0,I O 0,I O 0,I O 0] 51)
 have z:=zd (j _ f)
 have k:=zd (zbJ h)
 have H:=h.lt
 clear h j
 go_enter func142,ntmps142
 have A:=zd x
 have n:=zd f
 have u:=zd y
 clear K L x f y
 go_wp2_with fail
 generalize(((w.alloc (.cells #[I O 3,I O o.on,I O o.a,I O o.b,I O o.c,I C o.v,I O o.te,I O o.tn,I O o.fs,I O o.fe,I O o.fb,I O o.fw,I O o.fk,I O o.fq,.slice o.fa o.fn o.fc] 82)).alloc (.cells #[I O te,I O tn] 49)).alloc (.cells #[I O 0,I O 0,I O 0,I O 0,I O 0,I O 0,I O 0,I O 0,I O 0,I O 0,I O 0] 51))=X at*
 refine(ud z).mono ?_
 rintro e V ⟨rfl,t⟩
 have F:w.1.size+2<X.1.size:=by rw[ud u];omega
 have l:=t.kept.heap (ud A) (fun e=>by have:=(ud k _ e).2;omega)
 have d:=zd l
 have p:=zd t
 clear t l
 obtain⟨N,P,Q,R,S,T,U,W,Y,Z,J⟩:=z11 (ud d)
 have jf:=fun i=>zH (ud d) i
 have jl:=zb (ud d)
 go_wp2_with fail
 have D:=zhh (ud d) (I O 0) (I O 0) (I O 0) (I O 0) (I O 0) (I O 0) (I O 0) (I O 0) (I O 0) (I O 0) (I O 0)
 have s:=zbw (w:=V) (g:=w.1.size+2) (I O 0) (I O 0) (I O 0) (I O 0) (I O 0) (I O 0) (I O 0) (I O 0) (I O 0) (I O 0) (I O 0)
 refine bodyPost_ret (v:=.tuple #[.agg #[I O 0,I O 0,I O 0,I O 0,I O 0,I O 0,I O 0,I O 0,I O 0,I O 0,I O 0],I O r]) (zp results142 _ _ (w.1.size+2) _ _ _ _ _ rfl rfl D underlying51 rfl (by kernel_rfl)) rfl ?_
 exact⟨rfl,ZL (ud k) (ud n) (ud u) (ud p) s⟩
structure PD where
 po:Nat
 d:Nat
 r:Nat
 i:Ids
 c:Cf
 ct:z1
 mv:z1
 td:z1
 fs:Option Nat
 ep:Int
 m:MS
 tg:List Tok
 B0:Nat
 B1:Nat
 rm:RM
 rt:z1
 nv:z1
 pv:z1
 gv:z1
 kv:z1
def mft(i:Ids)(fs:Option Nat)(k:Nat):Prop:=zgF i k\/fs=E k
def PD.rest(p:PD)(k:Nat):Prop:=k=p.po\/False\/p.mv.ownBlock=E k\/p.td.ownBlock=E k\/jd p.r p.rt p.nv p.pv p.gv p.kv k
def PD.foot(p:PD)(k:Nat):Prop:=mft p.i p.fs k\/p.rest k
structure PD.at(p:PD)(w:M):Prop where
 head:w.1[p.po]?=E (zD p.i.x p.d p.c p.ct p.mv p.td p.ep)
 mill:zB w p.i p.c p.ep p.m
 disk:p.d=p.i.d/\fsB w p.i.d=p.fs/\∀k,p.rt.ownBlock=E k->¬p.i.tv.ownBlock=E k
 may:w.ownsRow 0 138 1 p.mv 1 [.pointer (E ⟨p.r,0,G⟩)]
 told:w.ownsRow 0 49 2 p.td p.tg.length (p.tg.flatMap zjx)
 ref:zQ p.B1 w p.r p.rm p.rt p.nv p.pv p.gv p.kv
 hap:∀k,p.pv.ownBlock=E k->¬p.gv.ownBlock=E k
 sim:qB p.c p.ep p.m p.rm
 twf:∀t∈p.tg,t.wf
 nt:∀k,p.rest k->k≠ZV
theorem zhM{w:M}{base:Nat}{e:TypeId}{size:Nat}{v:z1}{n:Nat}{xs:List z1}(h:w.ownsRow base e size v n xs):∀k,v.ownBlock=E k->k<w.1.size:=fun k a=>(h.lt k a).2
section
variable {p:PD} {w:M}
theorem PD.at.mft(h:p.at w){k:Nat}:mft p.i p.fs k↔zT w p.i k:=by
 unfold Go.Proofs.YtndhpgciopcncaaGreatDoor.mft zT;rw[h.disk.2.1]
theorem PD.at.apart(h:p.at w):∀k,p.rest k->¬zT w p.i k:=fun k a=>by
 rcases a with a|a|a|a|a
 ·rw[a];exact h.mill.not_post h.head
 ·exact a.elim
 ·exact h.mill.not_row h.may (by decide) a
 ·exact h.mill.not_row h.told (by decide) a
 ·rcases a with a|a|a|a|a|a
  ·rw[a];exact h.mill.tag h.ref.head (by decide)
  ·exact fun e=>by obtain⟨b,c⟩:=zz h.ref.trow a;exact h.disk.2.2 k a (h.mill.tier c e)
  ·exact h.mill.not_row h.ref.nrow (by decide) a
  ·exact h.mill.not_row h.ref.prow (by decide) a
  ·exact h.mill.not_row h.ref.grow (by decide) a
  ·exact h.mill.not_row h.ref.krow (by decide) a
theorem PD.at.foot_lt(h:p.at w):∀k,p.foot k->k<w.1.size:=fun k a=>by
 rcases a with a|rfl|a|a|a|a
 ·exact h.mill.foot_lt k (h.mft.1 a)
 ·exact zb h.head
 ·exact a.elim
 ·exact zhM h.may k a
 ·exact zhM h.told k a
 ·exact(zbJ h.ref k a).2
theorem PD.at.kept{f:Nat->Prop}{w':M}(h:p.at w)(a:zk f w w')(hn:∀k,p.foot k->¬f k)(b:¬f ZV):p.at w':=
 ⟨a.heap h.head (hn _ (.inr (.inl rfl))),h.mill.kept a (fun k e=>hn k (.inl (h.mft.2 e))) b,⟨h.disk.1,(jp a h.mill.dlt (hn _ (.inl (.inl (.inr (.inr (.inr (.inr rfl)))))))).trans h.disk.2.1,h.disk.2.2⟩,zg h.may a (fun k e=>hn k (.inr (.inr (.inr (.inl e))))),zg h.told a (fun k e=>hn k (.inr (.inr (.inr (.inr (.inl e)))))),h.ref.kept a (fun k e=>hn k (.inr (.inr (.inr (.inr (.inr e)))))),h.hap,h.sim,h.twf,h.nt⟩
theorem PD.at.later{w':M}(h:p.at w)(a:z2 w.1.size w w'):p.at w':=h.kept (f:=fun _=>False) (zk.of_below a) (fun _ _ e=>e) (fun e=>e)
def PD.wr(p:PD)(k:Nat):Prop:=mft p.i p.fs k\/k=p.po\/p.td.ownBlock=E k
theorem PD.at.step{Z:M}(h:p.at w){q B':Nat}{mv' td' l j f b g:z1}{m':MS}{rm':RM}{toks':List Tok}(a:zk p.wr w Z)(u:∀k,fsB Z p.i.d=E k->p.fs=E k\/w.1.size<=k)
  (z:Z.1[p.po]?=E (zD p.i.x p.d p.c p.ct mv' td' p.ep)) (A:zB Z p.i p.c p.ep m') (B:Z.ownsRow 0 138 1 mv' 1 [.pointer (E ⟨q,0,G⟩)]) (o:∀k,mv'.ownBlock=E k->w.1.size<=k)
  (D:Z.ownsRow 0 49 2 td' toks'.length (toks'.flatMap zjx)) (s:∀k,td'.ownBlock=E k->p.td.ownBlock=E k\/w.1.size<=k) (F:zQ B' Z q rm' l j f b g) (m:∀k,jd q l j f b g k->jd p.r p.rt p.nv p.pv p.gv p.kv k\/w.1.size<=k) (H:∀k,f.ownBlock=E k->¬b.ownBlock=E k)
  (J:qB p.c p.ep m' rm') (K:∀t∈toks',t.wf):
  PD.at ⟨p.po,p.d,q,p.i,p.c,p.ct,mv',td',fsB Z p.i.d,p.ep,m',toks',p.B0,B',rm',l,j,f,b,g⟩ Z/\(∀k,PD.foot ⟨p.po,p.d,q,p.i,p.c,p.ct,mv',td',fsB Z p.i.d,p.ep,m',toks',p.B0,B',rm',l,j,f,b,g⟩ k->p.foot k\/w.1.size<=k)/\zk p.foot w Z:=by
 have L:=h.mill.tab.lt
 refine⟨⟨z,A,⟨h.disk.1,rfl,fun k a e=>?_⟩,B,D,F,H,J,K,fun k a=>?_⟩,fun k a=>?_,a.mono (fun k _ n=>?_)⟩
 ·have y:zT w p.i k:=.inl (.inr (.inl (.inr (.inl e))))
  rcases m k (.inr (.inl a))with v|v
  ·exact h.apart k (.inr (.inr (.inr (.inr v)))) y
  ·have:=h.mill.foot_lt k y;omega
 ·rcases a with rfl|a|a|a|a
  ·exact h.nt _ (.inl rfl)
  ·exact a.elim
  ·exact fun e=>by have:=o k a;omega
  ·rcases s k a with a|a
   ·exact h.nt _ (.inr (.inr (.inr (.inl a))))
   ·exact fun e=>by omega
  ·rcases m k a with a|a
   ·exact h.nt _ (.inr (.inr (.inr (.inr a))))
   ·exact fun e=>by omega
 ·rcases a with a|rfl|a|a|a|a
  ·rcases a with a|a
   ·exact .inl (.inl (.inl a))
   ·rcases u k a with a|a
    ·exact .inl (.inl (.inr a))
    ·exact .inr a
  ·exact .inl (.inr (.inl rfl))
  ·exact a.elim
  ·exact .inr (o k a)
  ·rcases s k a with a|a
   ·exact .inl (.inr (.inr (.inr (.inr (.inl a)))))
   ·exact .inr a
  ·rcases m k a with a|a
   ·exact .inl (.inr (.inr (.inr (.inr (.inr a)))))
   ·exact .inr a
 ·rcases n with n|n|n
  ·exact .inl n
  ·exact .inr (.inl n)
  ·exact .inr (.inr (.inr (.inr (.inl n))))
end
theorem qd{w:M}{b x d:Nat}{c:Cf}{ct j k:z1}{ep:Int}(h:w.1[b]?=E (zD x d c ct j k ep)){B size n:Nat}{e:TypeId}{v:z1}{xs:List z1}(i:w.ownsRow B e size v n xs)(g:e≠137)(hv:v.ownBlock=E b):False:=by
 obtain⟨f,a⟩:=zz i hv
 unfold zD at h
 rw[h]at a
 injection a with a;injection a with _ a
 exact g a.symm
theorem YE(p:PD){w:M}(h:p.at w)(o:Ops)(kk:Int)(cU:(kk==6)=false)(t:Tok)
  (HT:∀V,z2 w.1.size w V->Calls prog 139 #[.pointer (E ⟨p.po,0,G⟩),.agg #[I O kk,I O o.on,I O o.a,I O o.b,I O o.c,I C o.v,I O o.te,I O o.tn,I O o.fs,I O o.fe,I O o.fb,I O o.fw,I O o.fk,I O o.fq,.slice o.fa o.fn o.fc]] V fun e V'=>e=.returned (.agg #[I O t.ep,I O t.num])/\z2 V.1.size V V')
  (ao:Tk->Int->MS->Prop)
  (HC:∀V,z2 w.1.size w V->Calls prog 140 #[.pointer (E ⟨p.po,0,G⟩),.agg #[I O kk,I O o.on,I O o.a,I O o.b,I O o.c,I C o.v,I O t.ep,I O t.num,I O o.fs,I O o.fe,I O o.fb,I O o.fw,I O o.fk,I O o.fq,.slice o.fa o.fn o.fc],.agg #[I O t.ep,I O t.num]] V fun e V'=>∃(l:Tk) (J:Int) (m':MS),e=.returned (.tuple #[tkA l,I O J])/\zB V' p.i p.c p.ep m'/\Kx p.i V V'/\ao l J m')
  (HD:∀l J m',ao l J m'->∃rm',qB p.c p.ep m' rm'/\∀B q V tv nv pv gv kv,zQ B V q p.rm tv nv pv gv kv->(∀k,pv.ownBlock=E k->¬gv.ownBlock=E k)->B<=V.1.size->Calls prog 142 #[.pointer (E ⟨q,0,G⟩),.agg #[I O kk,I O o.on,I O o.a,I O o.b,I O o.c,I C o.v,I O t.ep,I O t.num,I O o.fs,I O o.fe,I O o.fb,I O o.fw,I O o.fk,I O o.fq,.slice o.fa o.fn o.fc],.agg #[I O t.ep,I O t.num]] V fun e V'=>e=.returned (.tuple #[tkA l,I O J])/\kD B V q rm' tv nv pv gv kv V')
  (b4:∀l J m',ao l J m'->¬J=13):
  Calls prog 80 #[.pointer (E ⟨p.po,0,G⟩),.agg #[I O kk,I O o.on,I O o.a,I O o.b,I O o.c,I C o.v,I O o.te,I O o.tn,I O o.fs,I O o.fe,I O o.fb,I O o.fw,I O o.fk,I O o.fq,.slice o.fa o.fn o.fc]] w fun e w'=>e=.returned (.bool true)/\∃p':PD,p'.at w'/\p'.po=p.po/\p'.i=p.i/\p'.c=p.c/\p'.ep=p.ep/\p'.tg.length<=p.tg.length+1/\(∃l J,ao l J p'.m)/\(∀k,p'.foot k->p.foot k\/w.1.size<=k)/\zk p.foot w w':=by
 have H:=zd h
 obtain⟨y,d,r,i,c,ct,mv,td,fs,ep,m,tg,B0,B1,rm,rt,nv,pv,gv,kv⟩:=p
 dsimp only at HT HC HD ⊢
 have K:w.1[y]?=E (zD i.x d c ct mv td ep):=h.head
 have D:zB w i c ep m:=h.mill
 have bH:∀k,k=y\/False\/mv.ownBlock=E k\/td.ownBlock=E k\/jd r rt nv pv gv kv k->k≠ZV:=h.nt
 have aB:∀k,k=y\/False\/mv.ownBlock=E k\/td.ownBlock=E k\/jd r rt nv pv gv kv k->¬zT w i k:=h.apart
 obtain⟨bz,ax⟩:d=i.d/\fsB w i.d=fs:=⟨h.disk.1,h.disk.2.1⟩
 have aH:w.ownsRow 0 138 1 mv 1 [.pointer (E ⟨r,0,G⟩)]:=h.may
 have am:w.ownsRow 0 49 2 td tg.length (tg.flatMap zjx):=h.told
 have aJ:zQ B1 w r rm rt nv pv gv kv:=h.ref
 have hap:∀k,k=y\/False\/mv.ownBlock=E k\/td.ownBlock=E k\/jd r rt nv pv gv kv k->¬mft i fs k:=by intro k n;rw[<-ax];exact aB k n
 have aK:qB c ep m rm:=h.sim
 have cX:=zb K
 have bA:∀k,mft i fs k->k<w.1.size:=by intro k n;rw[<-ax]at n;exact D.foot_lt k n
 have aF:=D.flt
 have bL:¬mft i fs y:=hap _ (.inl rfl)
 have av:z2 w.1.size w (w.alloc (.cells #[I O kk,I O o.on,I O o.a,I O o.b,I O o.c,I C o.v,I O o.te,I O o.tn,I O o.fs,I O o.fe,I O o.fb,I O o.fw,I O o.fk,I O o.fq,.slice o.fa o.fn o.fc] 82)):=(z5 _ _).alloc (z4 _) _
 have bj:=zd (zr w (.cells #[I O kk,I O o.on,I O o.a,I O o.b,I O o.c,I C o.v,I O o.te,I O o.tn,I O o.fs,I O o.fe,I O o.fb,I O o.fw,I O o.fk,I O o.fq,.slice o.fa o.fn o.fc] 82))
 have cp:=zG w (.cells #[I O kk,I O o.on,I O o.a,I O o.b,I O o.c,I C o.v,I O o.te,I O o.tn,I O o.fs,I O o.fe,I O o.fb,I O o.fw,I O o.fk,I O o.fq,.slice o.fa o.fn o.fc] 82)
 have bn:=zd (HT _ av)
 have b9:=zd HC
 have bb:=zd HD
 have aA:=zd b4
 have be:=zd K
 have cM:=zd D
 have bi:=zd bH
 have bd:=zd ax
 have bV:=zd bz
 have ac:=zd aF
 have bh:=zd aH
 have c7:=zd am
 have c4:=zd aJ
 have aM:=zd hap
 have ad:=zd aK
 have bX:=zd bA
 clear HT HC HD b4 h D bH aB ax bz aF aH am aJ hap aK bA K
 go_enter func80,ntmps80
 go_wp2_with fail
 generalize(w.alloc (.cells #[I O kk,I O o.on,I O o.a,I O o.b,I O o.c,I C o.v,I O o.te,I O o.tn,I O o.fs,I O o.fe,I O o.fb,I O o.fw,I O o.fk,I O o.fq,.slice o.fa o.fn o.fc] 82))=X0 at*
 refine(ud bn).mono ?_
 rintro e w1 ⟨rfl,aP⟩
 have bR:=av.trans (aP.mono av.size)
 have Ha:=(aP.block w.1.size (by omega)).trans (ud bj)
 obtain⟨a0,a1,a2,a3,a4,a5,a6,a7,a8,a9,c8,c9,ca,cb,cc,-⟩:=zc Ha
 have af:=fun j=>zH Ha j
 have cY:=zb Ha
 have HA:=zd Ha
 have aO:=zd bR
 clear Ha bR aP av bn bj cp
 go_wp2_with fail
 have b0:((w1.setCell ⟨w.1.size,6,G⟩ (I O t.ep)).setCell ⟨w.1.size,7,G⟩ (I O t.num)).1[w.1.size]?=E (.cells #[I O kk,I O o.on,I O o.a,I O o.b,I O o.c,I C o.v,I O t.ep,I O t.num,I O o.fs,I O o.fe,I O o.fb,I O o.fw,I O o.fk,I O o.fq,.slice o.fa o.fn o.fc] 82 (0,0)):=xi (i:=7) (xi (i:=6) (ud HA) _) _
 have an:=(ud aO).size
 have b3:z2 w.1.size w (((w1.setCell ⟨w.1.size,6,G⟩ (I O t.ep)).setCell ⟨w.1.size,7,G⟩ (I O t.num)).alloc (.cells #[I O t.ep,I O t.num] 49)):=(((ud aO).setCell (p:=⟨w.1.size,6,G⟩) (z4 _) _).setCell (p:=⟨w.1.size,7,G⟩) (z4 _) _).alloc (by simpa[World.setCell]using an) _
 have b1:((w1.setCell ⟨w.1.size,6,G⟩ (I O t.ep)).setCell ⟨w.1.size,7,G⟩ (I O t.num)).1.size=w1.1.size:=by simp[World.setCell]
 have bk:=zd ((Below.heap_alloc _ (.cells #[I O t.ep,I O t.num] 49) _ (zb b0)).trans b0)
 have b2:=zr ((w1.setCell ⟨w.1.size,6,G⟩ (I O t.ep)).setCell ⟨w.1.size,7,G⟩ (I O t.num)) (.cells #[I O t.ep,I O t.num] 49)
 rw[b1]at b2
 have bo:=zd b2
 have bu:(((w1.setCell ⟨w.1.size,6,G⟩ (I O t.ep)).setCell ⟨w.1.size,7,G⟩ (I O t.num)).alloc (.cells #[I O t.ep,I O t.num] 49)).1.size=w1.1.size+1:=by rw[zG,b1]
 have b8:=zd (ud b9 _ b3)
 have au:=zd b3
 have cO:=zd bu
 clear a0 a1 a2 a3 a4 a5 a6 a7 a8 a9 c8 c9 ca cb cc af b0 b1 b2 b3 bu an b9
 generalize(((w1.setCell ⟨w.1.size,6,G⟩ (I O t.ep)).setCell ⟨w.1.size,7,G⟩ (I O t.num)).alloc (.cells #[I O t.ep,I O t.num] 49))=X at*
 refine(ud b8).mono ?_
 rintro e V ⟨l,J,m',rfl,bD,aV,P⟩
 obtain⟨rm',al,ai⟩:=ud bb l J m' P
 have cg:(J==13)=false:=by simpa using ud aA l J m' P
 have bg:=zd bD
 have c0:=zd aV
 have aG:zk (mft i fs) X V:=by have h9:=(ud ac).kept (ud au) aV;intros;exact(show zk (mft i fs) X V from by rw[<-ud bd];exact h9)
 have T:=zd aG
 have b5:=zd P
 have bm:=zd al
 have ab:=zd ai
 have bC:∀k,mft i fs k->k<w.1.size:=ud bX
 have bE:¬mft i fs w.1.size:=fun e=>by have:=bC _ e;omega
 have an:=(ud aO).size
 have bF:¬mft i fs w1.1.size:=fun e=>by have:=bC _ e;omega
 clear bD aV aG b8 P al ai bb aA
 have aR:i.d<V.1.size:=z3 (ud ac).d (Nat.le_trans (ud au).size (ud T).size)
 have R:zk (mft i fs) w V:=(zk.of_below (ud au)).trans (ud T) (fun _ _ h=>h)
 have A:zk (mft i fs) w (V.alloc (.cells #[I O l.kind,I O l.s.t,I O l.s.se,I O l.s.wn,I O l.si,I O l.tc,I O l.rest,I O l.ep,I O l.num,I O l.slot,I O l.till] 51)):=R.alloc _
 have ag:z2 V.1.size V (V.alloc (.cells #[I O l.kind,I O l.s.t,I O l.s.se,I O l.s.wn,I O l.si,I O l.tc,I O l.rest,I O l.ep,I O l.num,I O l.slot,I O l.till] 51)):=(z5 _ _).alloc (z4 _) _
 have az:=R.heap (ud be) bL
 have p1:V.cell? ⟨y,1,G⟩=E (.pointer (E ⟨d,0,G⟩)):=by unfold zD at az;rw[xd az];rfl
 have bK:=zb az
 have bs:=Qr ag aR
 have bY:Hid (∀k,fsB (V.alloc (.cells #[I O l.kind,I O l.s.t,I O l.s.se,I O l.s.wn,I O l.si,I O l.tc,I O l.rest,I O l.ep,I O l.num,I O l.slot,I O l.till] 51)) i.d=E k->fs=E k\/w.1.size<=k):=fun k n=>by rw[<-ud bd];exact((ud ac).kx (ud au) (ud c0)).fs k (bs.symm.trans n)
 have bW:Hid (i.d<(V.alloc (.cells #[I O l.kind,I O l.s.t,I O l.s.se,I O l.s.wn,I O l.si,I O l.tc,I O l.rest,I O l.ep,I O l.num,I O l.slot,I O l.till] 51)).1.size):=z3 aR ag.size
 have ae:=zd (((ud bg).later ag).stopped)
 rw[<-ud bV]at ae
 have c5:=zd ((ud c4).kept A (fun k n=>ud aM k (.inr (.inr (.inr (.inr n))))))
 have br:=zd (zg (ud bh) A (fun k n=>ud aM k (.inr (.inr (.inl n)))))
 have bq:=zd (zg (ud c7) A (fun k n=>ud aM k (.inr (.inr (.inr (.inl n))))))
 have c1:=zd ((ud bg).later ag)
 have ar:=zd (A.heap (ud be) bL)
 have bf:=zd A
 have aq:=zd ((Below.heap_alloc _ (.cells #[I O l.kind,I O l.s.t,I O l.s.se,I O l.s.wn,I O l.si,I O l.tc,I O l.rest,I O l.ep,I O l.num,I O l.slot,I O l.till] 51) _ (zb ((ud T).heap (ud bk) bE))).trans ((ud T).heap (ud bk) bE))
 have bp:=zd ((Below.heap_alloc _ (.cells #[I O l.kind,I O l.s.t,I O l.s.se,I O l.s.wn,I O l.si,I O l.tc,I O l.rest,I O l.ep,I O l.num,I O l.slot,I O l.till] 51) _ (zb ((ud T).heap (ud bo) bF))).trans ((ud T).heap (ud bo) bF))
 have ap:=zd (zr V (.cells #[I O l.kind,I O l.s.t,I O l.s.se,I O l.s.wn,I O l.si,I O l.tc,I O l.rest,I O l.ep,I O l.num,I O l.slot,I O l.till] 51))
 have bt:(V.alloc (.cells #[I O l.kind,I O l.s.t,I O l.s.se,I O l.s.wn,I O l.si,I O l.tc,I O l.rest,I O l.ep,I O l.num,I O l.slot,I O l.till] 51)).1.size=V.1.size+1:=zG _ _
 have cZ:=R.size
 clear R A ag az aR bs
 go_wp2_with fail
 have cN:=zd bt
 clear p1 bK bt
 generalize(V.alloc (.cells #[I O l.kind,I O l.s.t,I O l.s.se,I O l.s.wn,I O l.si,I O l.tc,I O l.rest,I O l.ep,I O l.num,I O l.slot,I O l.till] 51))=Y at*
 refine(ud ae).mono ?_
 rintro e Y1 ⟨rfl,bv⟩
 rw[bv]
 clear bv ae
 obtain⟨mb,aL,aW,_,cH⟩:=(ud br).form (by omega)
 have ak:=ud ar
 have cC:Y.cell? ⟨y,13,G⟩=E (.bool false):=by unfold zD at ak;rw[xd ak];rfl
 have p9:Y.cell? ⟨y,9,G⟩=E (.slice (E ⟨mb,0,G⟩) 1 aL):=by unfold zD at ak;rw[xd ak,aW];rfl
 have cm:Y.cell? ⟨mb,0,G⟩=E (.pointer (E ⟨r,0,G⟩)):=by
  have:=ud br
  rw[aW]at this
  rw[this.cellAt 0 (by omega)];rfl
 clear ak
 go_wp2_with fail
 refine wp_loop_rounds 2 ?_
 rw[rounds_succ]
 have ba:=zd (zeZ (ud c5) (ud ad).hokr (by have:=(ud ad).len;omega) (by have:=(ud ad).glen;omega) (by have:=(ud ad).plen;omega) (by have:=(ud ad).klen;omega))
 go_wp2_with fail
 refine(ud ba).mono ?_
 rintro e Z ⟨q,rfl,bT,cv,cD,ce,cr,aY,W,aC⟩
 have bJ:=(W.block w.1.size (zb (ud aq))).trans (ud aq)
 have bQ:=(W.block w1.1.size (zb (ud bp))).trans (ud bp)
 obtain⟨o0,o1,o2,o3,o4,o5,o6,o7,o8,o9,cx,cy,cz,cA,cB,-⟩:=zc bJ
 obtain⟨t0,t1,-⟩:=zc bQ
 have bc:=zd (ud ab Y.1.size q Z bT cv cD ce cr aY aC W.size)
 have bl:=zd (zbJ aY)
 have b6:=zd W
 have bS:=W.size
 clear bJ bQ aY W ba aC ab
 go_wp2_with fail
 refine(ud bc).mono ?_
 rintro e U ⟨rfl,aZ⟩
 have bx:z2 Y.1.size Z U:=aZ.kept.below bS (fun k e=>(ud bl k e).1)
 have ah:z2 Y.1.size Y U:=(ud b6).trans bx
 have aU:=(ah.block V.1.size (zb (ud ap))).trans (ud ap)
 obtain⟨j0,j1,j2,j3,j4,j5,j6,j7,j8,j9,cq,-⟩:=zc aU
 have cS:=zb aU
 have c3:=zd aZ
 have L:=zd ah
 have cj:0<1:=by decide
 have ck:0+1<=maxLen:=by simp[maxLen]
 have cl:(0+1)*8<=140737488355328:=by omega
 clear aZ bx ah aU bc o0 o1 o2 o3 o4 o5 o6 o7 o8 o9 cx cy cz cA cB t0 t1
 go_wp2_with(first|(at_builtin;refine zJ rfl _ _ 135 rfl 0 138 _ 1 8 underlying135 Tryz.infoRefP rfl (by decide) (.slice G 0 0) 0 [] rfl (World.ownsRow_nil _ _ _ _) ⟨U.1.size+1,0,G⟩ 1 1 [.pointer (E ⟨q,0,G⟩)] rfl rfl (World.news_of_block (cs:=#[.pointer (E ⟨q,0,G⟩)]) (heap_second U _ _)) (by intro u hu;simp at hu;subst hu;rfl) cj ck cl (Nat.zero_le _) ?_;intro g z W4 aj aX Q aD cG;have c2:=zd aj;have bZ:=zd Q;have bU:=zd aD;clear aj aX Q aD)|go_in)
 have aQ:=((ud L).alloc (ud L).size (.cells #[I O l.kind,I O l.s.t,I O l.s.se,I O l.s.wn,I O l.si,I O l.tc,I O l.rest,I O l.ep,I O l.num,I O l.slot,I O l.till] 51)).alloc (by have:=(ud L).size;simp;omega) (.cells #[.pointer (E ⟨q,0,G⟩)] 138)
 have aS:((U.alloc (.cells #[I O l.kind,I O l.s.t,I O l.s.se,I O l.s.wn,I O l.si,I O l.tc,I O l.rest,I O l.ep,I O l.num,I O l.slot,I O l.till] 51)).alloc (.cells #[.pointer (E ⟨q,0,G⟩)] 138)).grownBy W4 G:=ud bZ
 have F:z2 Y.1.size Y W4:=aQ.grown aS aQ.size (fun k e=>by cases e)
 have aw:z2 U.1.size U ((U.alloc (.cells #[I O l.kind,I O l.s.t,I O l.s.se,I O l.s.wn,I O l.si,I O l.tc,I O l.rest,I O l.ep,I O l.num,I O l.slot,I O l.till] 51)).alloc (.cells #[.pointer (E ⟨q,0,G⟩)] 138)):=(box2 U _ _).2.2.1
 have aE:z2 U.1.size U W4:=aw.grown aS aw.size (fun k e=>by cases e)
 have aa:=(F.block y (zb (ud ar))).trans (ud ar)
 have bI:=(F.block w.1.size (zb (ud aq))).trans (ud aq)
 have aT:=(F.block V.1.size (zb (ud ap))).trans (ud ap)
 have k9:W4.cell? ⟨y,9,G⟩=E (.slice (E ⟨mb,0,G⟩) 1 aL):=by have hq:=aa;unfold zD at hq;rw[xd hq,aW];rfl
 have d1:W4.cell? ⟨y,11,G⟩=E td:=by have hq:=aa;unfold zD at hq;rw[xd hq];rfl
 have d2:∀j,W4.frozen? ⟨y,j,G⟩=false:=fun j=>by have hq:=aa;unfold zD at hq;exact zH hq j
 obtain⟨k0,-⟩:=zc bI
 obtain⟨-,-,-,-,-,-,-,k7,k8,-⟩:=zc aT
 have cK:=zb aa
 have cF:=zb aT
 have cW:¬w.1.size=y:=by omega
 have cJ:¬y=w.1.size:=by omega
 have cV:¬V.1.size=y:=by omega
 have cI:¬y=V.1.size:=by omega
 have aN:=zd aa
 have N:=zd F
 have b7:=zd aE
 have cR:U.1.size<=g:=by
  rcases ud bU with h|h
  ·cases h
  ·rw[h];exact aw.size
 have cQ:w.1.size<=Y.1.size:=(ud bf).size
 have cP:Y.1.size<=U.1.size:=(ud L).size
 have bO:(W4.setCell ⟨y,9,G⟩ (.slice (E ⟨g,0,G⟩) 1 z)).1[y]?=E (zD i.x d c ct (.slice (E ⟨g,0,G⟩) 1 z) td ep):=by
  have hq:=ud aN
  unfold zD at hq ⊢
  exact xi (i:=9) hq _
 have bB:zk (fun k=>k=y) W4 (W4.setCell ⟨y,9,G⟩ (.slice (E ⟨g,0,G⟩) 1 z)):=zq (zk.refl _ _) rfl
 have c6:=zd bO
 have S:=zd bB
 clear aQ aS F aw aE aa bI aT bO bB j0 j1 j2 j3 j4 j5 j6 j7 j8 j9 cq cC p9 cm
 rw[rounds_succ]
 go_wp2_with fail
 go_ret
 have ci:zk (fun k=>mft i fs k\/k=y\/td.ownBlock=E k) w W4:=((ud bf).mono (fun _ _ h=> .inl h)).trans (zk.of_below (f:=fun _=>False) (ud N)) (fun _ _ h=>h.elim)
 have ay:=(ud c1).later (ud N)
 have aI:=ay.not_post (ud aN)
 have ch:=ay.dlt
 have bG:=ay.ne_d aI
 have bP:=zg (ud bq) (zk.of_below (f:=fun _=>False) (ud N)) (fun _ _ h=>h)
 obtain⟨cw,cE,cf,cu,cn,bw,cT,bM⟩:=ud c3
 have co:=cn.later (ud b7)
 have d0:Y.1.size<=Z.1.size:=(ud b6).size
 have bN:∀k,jd q bT cw cE cf cu k->Y.1.size<=k:=fun k n=>by
  rcases bM k n with h|h
  ·exact(ud bl k h).1
  ·omega
 have cL:y<Y.1.size:=zb (ud ar)
 have hZ:zk (fun k=>mft i fs k\/k=y\/td.ownBlock=E k) w (W4.setCell ⟨y,9,G⟩ (.slice (E ⟨g,0,G⟩) 1 z)):=ci.trans (ud S) (fun k _ e=> .inr (.inl e))
 obtain⟨s1,s2,s3⟩:=(ud H).step (Z:=(W4.setCell ⟨y,9,G⟩ (.slice (E ⟨g,0,G⟩) 1 z))) (q:=q) (B':=Y.1.size) (mv':=.slice (E ⟨g,0,G⟩) 1 z) (td':=td) (m':=m') (rm':=rm') (toks':=tg) hZ (fun k n=>ud bY k ((Qr (ud N) (ud bW)).symm.trans ((jp (ud S) ch bG).symm.trans n))) (ud c6)
  (ay.kept (ud S) (fun k n e=>aI (by rw[<-e];exact n)) (fun e=>ud bi y (.inl rfl) e.symm)) (zg (ud c2) (ud S) (fun k n e=>by have hg:g=k:=Option.some.inj n;omega)) (fun k n=>by have hg:g=k:=Option.some.inj n;omega)
  (zg bP (ud S) (fun k n e=>qd (ud aN) bP (by decide) (e▸n))) (fun k n=> .inl n) (co.kept (ud S) (fun k n e=>by have:=bN k n;omega)) (fun k n=> .inr (by have:=bN k n;omega)) bw (ud bm) (ud H).twf
 exact⟨rfl,_,s1,rfl,rfl,rfl,rfl,Nat.le_succ _,⟨l,J,ud b5⟩,s2,s3⟩
end Go.Proofs.YtndhpgciopcncaaGreatDoor
