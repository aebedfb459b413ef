import Derived.Test.YtndhpgciopcncaaGreatDoorPRef5
import Derived.Maps.Keyed
import Derived.Maps.RangeRun
import Derived.DeepKeys4
import Derived.RangeFuncOwn
import Derived.RangeFuncNested
import Derived.RangeFuncBound
import Derived.RangeFuncCalls
import Derived.RangeFuncLeaves
import Derived.Shelf.Abstract
import Derived.Shelf.RegionOpen
import Derived.WalkKit
import Derived.OwnWalkIn
import Derived.TacticsInMore
import Derived.LoopNIn
import Derived.LoopIn
open Option renaming some → J
open Go renaming World → E
open Go renaming Value → Q
open Go.Value (int)
open Go.IntKind (i32)
set_option linter.unusedVariables false
open Go.Proofs.Tryz
namespace Go.Proofs.YtndhpgciopcncaaGreatDoor
open Go.RowKit
def onB(c:Cf)(a b:Sg):Bool:=if a.t= -1\/c.F a.t.toNat≠b.t\/a.sr≠b.sr then false else(b.wn*c.wh b.t/c.wh a.t==a.wn)
theorem on_1{c:Cf}{a b:Sg}(h:a.t= -1):onB c a b=false:=by simp[onB,h]
section
variable {α:Type} (lt:α->α->Bool)
def KN(x:α):List α->List α
 |[]=>[x]
 |y::r=>if lt x y then x::y::r else y::KN x r
end
def XW(a b:Tk):Bool:=if a.kind≠b.kind then decide (a.kind<b.kind)else if a.s.t≠b.s.t then decide (a.s.t<b.s.t)else if a.s.sr≠b.s.sr then decide (a.s.sr<b.s.sr)else decide (a.s.wn<b.s.wn)
theorem kq{w:E}{b b':Nat}{e:TypeId}{size:Nat}{v:Q}{n:Nat}{xs:List Q}(h:w.ownsRow b e size v n xs)(d:b'<=b):w.ownsRow b' e size v n xs:=by
 refine⟨h.1,?_⟩
 rcases h.2 with c|⟨g,cap,a,rfl,f,r⟩
 ·exact .inl c
 ·exact .inr ⟨g,cap,a,rfl,Nat.le_trans d f,r⟩
def Ji(m:RM)(s:Sg):Bool:=!(s.t== -1)&&!Qt s m.pub&&!Qt s m.gone&&!decide (m.now-m.c.la<m.c.end s)
def Xg(m:RM)(s:Sg):Bool:=!Qt s m.gone&&!(decide (0<=s.t)&&!Qt s m.pub)&&!decide (m.now<m.c.end s+m.c.keep s.t)
def zkt(m:RM)(s x:Sg):Bool:=onB m.c s x&&decide (0<=x.t)&&!Qt x m.pub
def zhj(m:RM)(s x:Sg):Bool:=onB m.c x s&&!Qt x m.pub&&!Qt x m.gone
def Kr(m:RM)(s:Sg)(l:List Sg):Bool:=Ji m s&&l.all (fun x=>!zkt m s x)
def Ks(m:RM)(s:Sg)(l:List Sg):Bool:=Xg m s&&l.all (fun x=>!zhj m s x)
def zpu(m:RM)(kind:Int)(s:Sg):Tk:=⟨kind,s,m.now,0,0,0,0,-1,0⟩
def kE(kind:Int)(s:Sg)(t x:Tk):Tk:=if x.kind=kind/\x.s=s then x else t
def yy(m:RM)(kind:Int)(s:Sg):Tk:=m.td.foldl (kE kind s) (zpu m kind s)
def vk(m:RM)(kind:Int)(s:Sg)(l:List Sg):Bool:=if kind=1 then Kr m s l else Ks m s l
def vT(m:RM)(l:List Sg)(kind:Int)(out:List Tk)(s:Sg):List Tk:=if vk m kind s l then KN XW (yy m kind s) out else out
def ZB(m:RM)(l:List Sg)(i:Nat):List Tk:=(l.take i).foldl (fun out s=>vT m l 2 (vT m l 1 out s) s) []
def RM.settled(m:RM):RM:={m with td:=ZB m (xb m.c m.nu) (xb m.c m.nu).length}
theorem zr{w:E}{p:Nat}{cs:Array Q}{T e:TypeId}{d:Nat×Nat}{B size n:Nat}{v:Q}{xs:List Q}(h:w.1[p]?=J (.cells cs T d))(i:w.ownsRow B e size v n xs)(f:T≠e):∀k,v.ownBlock=J k->¬k=p:=fun k g b=>by
 subst b
 obtain⟨c,a⟩:=zH i g
 rw[h]at a
 injection a with a;injection a with _ a;exact f a
def RM.tick(m:RM)(n:Int):RM×Int:=if n<1\/1000<n\/100000<m.now+n then(m,5)else({m with now:=m.now+n}.settled,0)
theorem zeA{m:RM}{n:Int}(h:n<1\/1000<n\/100000<m.now+n):m.tick n=(m,5):=by simp[RM.tick,h]
theorem jq{w:E}{base size n:Nat}{e:TypeId}{v:Q}{xs:List Q}(h:w.ownsRow base e size v n xs):w.drew.ownsRow base e size v n xs:=h
theorem vo{w w':E}{a:Option Nat}(h:w.drew.grownBy w' a):w.grownBy w' a:=⟨h.os,h.tape,h.output,h.size,h.block⟩
theorem jp(w:E)(o:Obj):(w.alloc o).drew.1[w.1.size]?=J o:=zp w o
theorem xx{w:E}{g h o p n1 n:Nat}{d e:TypeId}{f v2:Q}{q r:List Q}(i:w.ownsRow g d o f n1 q)(j:w.ownsRow h e p v2 n r)(l:d≠e):∀k,f.ownBlock=J k->¬v2.ownBlock=J k:=fun k m c=>by
 obtain⟨s,b⟩:=zH i m
 obtain⟨t,hc2⟩:=zH j c
 rw[b]at hc2
 injection hc2 with a;injection a with _ a;exact l a
def Z7(m:RM)(L:List Sg)(x:Nm)(k:Nat):Int:=(List.range k).foldl (fun(c:Int) (t:Nat)=>if zF m.c (t:Int) x∈L then c else c+2) (m.used+1)
theorem znq{m:RM}{L:List Sg}{x:Nm}{k:Nat}(h:zF m.c (k:Int) x∈L):Z7 m L x (k+1)=Z7 m L x k:=by simp[Z7,List.range_succ,h]
theorem zky{m:RM}{L:List Sg}{x:Nm}{k:Nat}(h:¬zF m.c (k:Int) x∈L):Z7 m L x (k+1)=Z7 m L x k+2:=by simp[Z7,List.range_succ,h]
def RM.ingest(m:RM)(sr tm val:Int):RM×Int:=
 if sr<0\/4<=sr then(m,2)
 else if tm<0\/m.now<tm then(m,5)
 else if tm<m.now-m.c.la then(m,3)
 else if m.c.qu<Z7 m (xb m.c m.nu) ⟨sr,tm,val⟩ m.c.n then(m,4)
 else({m with nu:=m.nu++[Nm.mk sr tm val]}.settled,0)
theorem zfi{m:RM}{sr tm val:Int}(h:sr<0\/4<=sr):m.ingest sr tm val=(m,2):=by simp[RM.ingest,h]
theorem zcv{m:RM}{sr tm val:Int}(h:¬(sr<0\/4<=sr))(a:tm<0\/m.now<tm):m.ingest sr tm val=(m,5):=by unfold RM.ingest;rw[if_neg h,if_pos a]
theorem zcu{m:RM}{sr tm val:Int}(h:¬(sr<0\/4<=sr))(a:¬(tm<0\/m.now<tm))(b:tm<m.now-m.c.la):m.ingest sr tm val=(m,3):=by unfold RM.ingest;rw[if_neg h,if_neg a,if_pos b]
theorem zct{m:RM}{sr tm val:Int}(h:¬(sr<0\/4<=sr))(a:¬(tm<0\/m.now<tm))(b:¬tm<m.now-m.c.la)(d:m.c.qu<Z7 m (xb m.c m.nu) ⟨sr,tm,val⟩ m.c.n):m.ingest sr tm val=(m,4):=by unfold RM.ingest;rw[if_neg h,if_neg a,if_neg b,if_pos d]
theorem zhT{m:RM}{sr tm val:Int}(h:¬(sr<0\/4<=sr))(a:¬(tm<0\/m.now<tm))(b:¬tm<m.now-m.c.la)(d:¬m.c.qu<Z7 m (xb m.c m.nu) ⟨sr,tm,val⟩ m.c.n):m.ingest sr tm val=({m with nu:=m.nu++[Nm.mk sr tm val]}.settled,0):=by unfold RM.ingest;rw[if_neg h,if_neg a,if_neg b,if_neg d]
structure SV where
 st:Int
 cl:Cl
abbrev LV:=List (Sg×SV)
def qt:Cl:=⟨0,0,0,0⟩
def zn(L:LV):List Sg:=L.map (·.1)
def yY(L:LV)(s:Sg):Option SV:=(L.find? (fun p=>decide (p.1=s))).map (·.2)
def qT(L:LV)(s:Sg)(v:SV):LV:=if s∈zn L then L.map (fun p=>if p.1=s then(s,v)else p)else L++[(s,v)]
def stL(L:LV)(s:Sg):SV:=(yY L s).getD ⟨0,qt⟩
def qV(v:SV):Int:=if v.st=1 then v.cl.cnt else 2
def qw:List Int->Int
 |[]=>0
 |a::l=>a+qw l
def zJ(L:LV):Int:=qw (L.map (fun p=>qV p.2))
def zaN(k:Int)(v:SV):Int:=if v.st=k then 1 else 0
def xR(L:LV)(k:Int):Int:=qw (L.map (fun p=>zaN k p.2))
theorem KE(a b:List Int):qw (a++b)=qw a+qw b:=by
 induction a with
 |nil=>simp[qw]
 |cons x l c=>simp only[List.cons_append,qw,c];omega
theorem vt{a b:List Int}(h:a.Perm b):qw a=qw b:=by
 induction h with
 |nil=>rfl
 |cons x _ e=>simp only[qw,e]
 |swap x y l=>simp only[qw];omega
 |trans _ _ c d=>exact c.trans d
theorem VX{α:Type}(f:α->Int):∀(l:List α) (u:Int),l.foldl (fun n s=>n+f s) u=u+qw (l.map f)
 |[],u=>by simp[qw]
 |a::l,u=>by rw[List.foldl_cons,VX f l (u+f a)];simp only[List.map_cons,qw];omega
theorem qR{L:LV}{s:Sg}:yY L s=none↔s∉zn L:=by
 unfold yY zn
 rw[Option.map_eq_none_iff,List.find?_eq_none]
 simp only[decide_eq_true_eq,List.mem_map]
 constructor
 ·rintro h ⟨p,a,rfl⟩;exact h p a rfl
 ·rintro h p a e;exact h ⟨p,a,e⟩
theorem vF{L:LV}{s:Sg}{v:SV}(h:yY L s=J v):(s,v)∈L:=by
 unfold yY at h
 rw[Option.map_eq_some_iff]at h
 obtain⟨p,b,rfl⟩:=h
 have a:=List.find?_some b
 have c:=List.mem_of_find?_eq_some b
 simp at a;subst a;exact c
theorem Ql{L:LV}{s:Sg}(h:s∈zn L):∃v,yY L s=J v/\(s,v)∈L:=by
 cases e:yY L s with
 |none=>exact absurd h (qR.1 e)
 |some v=>exact⟨v,rfl,vF e⟩
theorem xJ{L:LV}{s:Sg}{v:SV}{k:Sg}:k∈zn (qT L s v)↔k∈zn L\/k=s:=by
 unfold qT
 by_cases h:s∈zn L
 ·rw[if_pos h]
  have:zn (L.map (fun p=>if p.1=s then(s,v)else p))=zn L:=by
   unfold zn
   rw[List.map_map]
   apply List.map_congr_left
   intro p _
   simp only[Function.comp]
   split<;>simp_all
  rw[this]
  constructor
  ·exact .inl
  ·rintro(a|rfl)<;>assumption
 ·rw[if_neg h];simp[zn]
theorem qY{L:LV}{s:Sg}{v:SV}(h:(zn L).Nodup):(zn (qT L s v)).Nodup:=by
 unfold qT
 by_cases c:s∈zn L
 ·rw[if_pos c]
  have:zn (L.map (fun p=>if p.1=s then(s,v)else p))=zn L:=by
   unfold zn
   rw[List.map_map]
   apply List.map_congr_left
   intro p _
   simp only[Function.comp]
   split<;>simp_all
  rw[this];exact h
 ·rw[if_neg c]
  unfold zn at*
  rw[List.map_append,List.nodup_append]
  refine⟨h,by simp,fun a f b d=>?_⟩
  simp at d;subst d;intro e;subst e;exact c f
theorem qr{L:LV}{s:Sg}{v:SV}{p:Sg×SV}(h:p∈qT L s v):p=(s,v)\/(p∈L/\p.1≠s):=by
 unfold qT at h
 by_cases a:s∈zn L
 ·rw[if_pos a,List.mem_map]at h
  obtain⟨q,b,rfl⟩:=h
  by_cases e:q.1=s
  ·left;simp[e]
  ·right;simp[e,b]
 ·rw[if_neg a,List.mem_append]at h
  rcases h with h|h
  ·right;exact⟨h,fun e=>a (by unfold zn;exact List.mem_map.2 ⟨p,h,e⟩)⟩
  ·left;simpa using h
theorem Xs{L:LV}{s:Sg}{v:SV}(f:SV->Int)(h:s∉zn L):qw ((qT L s v).map (fun p=>f p.2))=qw (L.map (fun p=>f p.2))+f v:=by
 unfold qT;rw[if_neg h,List.map_append,KE];simp[qw]
theorem zfu{L:LV}{s:Sg}{v:SV}(f:SV->Int):s∉zn L->(L.map (fun p=>if p.1=s then(s,v)else p)).map (fun p=>f p.2)=L.map (fun p=>f p.2):=by
 intro h
 rw[List.map_map]
 apply List.map_congr_left
 intro p a
 have:¬p.1=s:=fun e=>h (by unfold zn;exact List.mem_map.2 ⟨p,a,e⟩)
 simp[this]
theorem KF{s:Sg}{u v:SV}(f:SV->Int):∀{L:LV},(zn L).Nodup->(s,u)∈L->qw ((L.map (fun p=>if p.1=s then(s,v)else p)).map (fun p=>f p.2))=qw (L.map (fun p=>f p.2))-f u+f v
 |[],_,h=>by simp at h
 |q::L,hn,h=>by
  unfold zn at hn
  rw[List.map_cons,List.nodup_cons]at hn
  rw[List.mem_cons]at h
  rcases h with rfl|h
  ·have a:=zfu (L:=L) (s:=s) (v:=v) f hn.1
   rw[List.map_cons,List.map_cons,List.map_cons,a]
   simp only[qw,if_true];omega
  ·have b:¬q.1=s:=fun e=>hn.1 (by rw[e];exact List.mem_map.2 ⟨_,h,rfl⟩)
   have:=KF f (L:=L) (s:=s) (u:=u) (v:=v) hn.2 h
   rw[List.map_cons,List.map_cons,List.map_cons]
   simp only[b,if_false,qw]
   rw[this];omega
def znD(c:Cf)(nu:List Nm)(s:Sg):SV:=if s.t= -1 then⟨1,qi c s nu⟩else⟨2,qt⟩
section
variable {c:Cf} {nu:List Nm} {L:LV}
end
theorem zax{c:Cf}{s:Sg}:∀(nu:List Nm) (a:Cl),(∀x∈nu,¬zF c s.t x=s)->nu.foldl (ym c s) a=a
 |[],a,_=>rfl
 |x::r,a,h=>by
  rw[List.foldl_cons,ym,if_neg (h x (by simp))]
  exact zax r a (fun y b=>h y (by simp[b]))
theorem zaw{c:Cf}{s:Sg}:∀(nu:List Nm) (a:Cl),a.cnt<=(nu.foldl (ym c s) a).cnt
 |[],a=>Int.le_refl _
 |x::r,a=>by
  rw[List.foldl_cons]
  have:=zaw (c:=c) (s:=s) r (ym c s a x)
  have b:a.cnt<=(ym c s a x).cnt:=by
   unfold ym;split
   ·simp only[zeG];omega
   ·omega
  omega
theorem zdz{c:Cf}{s:Sg}:∀(nu:List Nm) (a:Cl),0<=a.cnt->(∃x∈nu,zF c s.t x=s)->1<=(nu.foldl (ym c s) a).cnt
 |[],a,_,h=>by obtain⟨x,b,_⟩:=h;simp at b
 |x::r,a,g,h=>by
  rw[List.foldl_cons]
  by_cases b:zF c s.t x=s
  ·have:=zaw (c:=c) (s:=s) r (ym c s a x)
   have f:(ym c s a x).cnt=a.cnt+1:=by simp[ym,b,zeG]
   omega
  ·have f:ym c s a x=a:=by simp[ym,b]
   rw[f]
   obtain⟨y,d,e⟩:=h
   rw[List.mem_cons]at d
   rcases d with rfl|d
   ·exact absurd e b
   ·exact zdz r a g ⟨y,d,e⟩
theorem zaA{c:Cf}{nu:List Nm}{s:Sg}(b: -1<=s.t)(d:s.t<c.n):(qi c s nu).cnt=0↔s∉xb c nu:=by
 constructor
 ·intro h f
  obtain⟨_,_,x,a,e⟩:=jj.1 f
  have:=zdz (c:=c) (s:=s) nu ⟨0,0,0,0⟩ (by simp) ⟨x,a,e.symm⟩
  unfold qi at h;omega
 ·intro h
  have:qi c s nu=⟨0,0,0,0⟩:=zax nu _ (fun x a e=>h (jj.2 ⟨b,d,x,a,e.symm⟩))
  rw[this]
def qM(v:Int):Option Cl->Cl
 |none=>⟨1,v,v,v⟩
 |some o=>⟨1+o.cnt,v+o.sum,if o.mn<v then o.mn else v,if v<o.mx then o.mx else v⟩
def xm(c:Cf)(x:Nm):Sg:=zF c (-1) x
def qN(c:Cf)(L:LV)(x:Nm):LV:=qT L (xm c x) ⟨1,qM x.val ((yY L (xm c x)).map (·.cl))⟩
def qd(c:Cf)(x:Nm)(k:Nat)(L:LV):LV:=if zF c (k:Int) x∈zn L then L else qT L (zF c (k:Int) x) ⟨2,qt⟩
def kw(c:Cf)(x:Nm):Nat->LV->LV
 |0,L=>L
 |k+1,L=>qd c x k (kw c x k L)
def yu(c:Cf)(L:LV)(x:Nm):LV:=kw c x c.n (qN c L x)
def qO(c:Cf)(L:LV)(x:Nm):Nat->Int
 |0=>0
 |k+1=>qO c L x k+(if zF c (k:Int) x∈zn L then 0 else 1)
theorem yD(c:Cf)(L:LV)(x:Nm):∀k:Nat,0<=qO c L x k/\qO c L x k<=k
 |0=>by simp[qO]
 |k+1=>by have:=yD c L x k;simp only[qO];split<;>omega
section
variable {c:Cf} {nu:List Nm} {L:LV}
theorem zjk{x:Nm}{i j:Int}(h:i≠j):zF c i x≠zF c j x:=fun e=>h (by injection e)
structure Mid(c:Cf)(nu:List Nm)(x:Nm)(k:Nat)(L:LV):Prop where
 nodup:(zn L).Nodup
 keys:∀s,s∈zn L↔s∈xb c nu\/s=xm c x\/∃j:Nat,j<k/\s=zF c (j:Int) x
 vals:∀p∈L,p.2=znD c (nu++[x]) p.1
theorem Mid.step{x:Nm}{k:Nat}(h:Mid c nu x k L):Mid c nu x (k+1) (qd c x k L):=by
 unfold qd
 by_cases d:zF c (k:Int) x∈zn L
 ·rw[if_pos d]
  refine⟨h.nodup,fun s=>?_,h.vals⟩
  rw[h.keys]
  constructor
  ·rintro(a|a|⟨j,b,a⟩)
   ·exact .inl a
   ·exact .inr (.inl a)
   ·exact .inr (.inr ⟨j,by omega,a⟩)
  ·rintro(a|a|⟨j,b,a⟩)
   ·exact .inl a
   ·exact .inr (.inl a)
   ·by_cases e:j=k
    ·subst e;subst a;exact(h.keys _).1 d
    ·exact .inr (.inr ⟨j,by omega,a⟩)
 ·rw[if_neg d]
  refine⟨qY h.nodup,fun s=>?_,fun p f=>?_⟩
  ·rw[xJ,h.keys]
   constructor
   ·rintro((a|a|⟨j,b,a⟩)|a)
    ·exact .inl a
    ·exact .inr (.inl a)
    ·exact .inr (.inr ⟨j,by omega,a⟩)
    ·exact .inr (.inr ⟨k,by omega,a⟩)
   ·rintro(a|a|⟨j,b,a⟩)
    ·exact .inl (.inl a)
    ·exact .inl (.inr (.inl a))
    ·by_cases e:j=k
     ·subst e;exact .inr a
     ·exact .inl (.inr (.inr ⟨j,by omega,a⟩))
  ·rcases qr f with rfl|⟨f,_⟩
   ·show(⟨2,qt⟩:SV)=znD c (nu++[x]) (zF c (k:Int) x)
    unfold znD
    rw[if_neg (show¬(zF c (k:Int) x).t= -1 by simp only[zF];omega)]
   ·exact h.vals p f
theorem Mid.to{x:Nm}(h:Mid c nu x 0 L):∀k,Mid c nu x k (kw c x k L)
 |0=>h
 |k+1=>(Mid.to h k).step
theorem Jp(x:Nm)(j:Nat)(k:Nat):zF c (j:Int) x∈zn (kw c x k (qN c L x))↔zF c (j:Int) x∈zn L\/j<k:=by
 induction k with
 |zero=>
  show _∈zn (qT _ _ _)↔_
  rw[xJ]
  constructor
  ·rintro(h|h)
   ·exact .inl h
   ·exact absurd h (zjk (by omega))
  ·rintro(h|h)
   ·exact .inl h
   ·omega
 |succ k b=>
  show _∈zn (qd c x k _)↔_
  unfold qd
  by_cases a:zF c (k:Int) x∈zn (kw c x k (qN c L x))
  ·rw[if_pos a,b]
   constructor
   ·rintro(h|h)
    ·exact .inl h
    ·exact .inr (by omega)
   ·rintro(h|h)
    ·exact .inl h
    ·by_cases e:j=k
     ·subst e;exact b.1 a
     ·exact .inr (by omega)
  ·rw[if_neg a,xJ,b]
   constructor
   ·rintro((h|h)|h)
    ·exact .inl h
    ·exact .inr (by omega)
    ·right
     have:(j:Int)=(k:Int):=by injection h
     omega
   ·rintro(h|h)
    ·exact .inl (.inl h)
    ·by_cases e:j=k
     ·subst e;exact .inr rfl
     ·exact .inl (.inr (by omega))
theorem zoD(x:Nm)(k:Nat):zJ (kw c x k (qN c L x))=zJ (qN c L x)+2*qO c L x k:=by
 induction k with
 |zero=>simp[kw,qO]
 |succ k d=>
  show zJ (qd c x k _)=_
  unfold qd
  have b:=Jp (c:=c) (L:=L) x k k
  simp only[Nat.lt_irrefl,or_false]at b
  by_cases h:zF c (k:Int) x∈zn L
  ·rw[if_pos (b.2 h),d];simp[qO,h]
  ·rw[if_neg (fun a=>h (b.1 a))]
   unfold zJ at d ⊢
   rw[Xs qV (fun a=>h (b.1 a)),d];simp[qO,h,qV];omega
end
theorem Tryz.infoTierR:(prog.info? 80).map (fun i=>(i.zero,i.size,i.bytes))=J (J (.agg #[I 0,I 0,I 0]),3,24):=by kernel_rfl
theorem zjN{w:E}{a:Option Addr}{n:Nat}{F W K:Nat->Int}(h:TS w a n F W K):0<(ZN n F W K).length->∃ad,a=J ad/\∀j v,(ZN n F W K)[j]?=J v->w.cell? (ad.add j)=J v:=by
 intro l
 rw[qv]at l
 obtain⟨b,f,rfl,_,m⟩:=h (by omega)
 refine⟨_,rfl,fun j v hv=>?_⟩
 have o:j<n*3:=by
  have:=(List.getElem?_eq_some_iff.1 hv).1;rwa[qv]at this
 rw[JQ n F W K j o]at hv
 cases hv
 have d:((U b f):Addr).add j=(U b (f+j)):=by unfold Addr.add;split<;>simp_all
 rw[d]
 obtain⟨g,i,k⟩:=m (j/3) (by omega)
 rcases(show j%3=0\/j%3=1\/j%3=2 by omega)with e|e|e
 ·have c:j=j/3*3:=by omega
  rw[c,znk];exact g
 ·have c:j=j/3*3+1:=by omega
  rw[c,zhq];exact i
 ·have c:j=j/3*3+2:=by omega
  rw[c,znl];exact k
end Go.Proofs.YtndhpgciopcncaaGreatDoor
namespace Go.Proofs.YtndhpgciopcncaaGreatDoor
open Go.RowKit Go.Maps
open Go.ChangeMaps (setBlock modify_eq_set)
abbrev SX:=Sg×SV
abbrev xZz(x:SX):Array Q:=#[I x.1.t,I x.1.sr,I x.1.wn,I x.2.st,I x.2.cl.cnt,I x.2.cl.sum,int i32 x.2.cl.mn,int i32 x.2.cl.mx]
def zX:SX:=(⟨0,0,0⟩,⟨0,qt⟩)
def kN(x:SX):Q:=.agg (xZz x)
def xg(n:Int):Prop:= -9223372036854775808<=n/\n<=9223372036854775807
def Sg.wf(s:Sg):Prop:=xg s.t/\xg s.sr/\xg s.wn
theorem Tryz.laidOut:laidOutB prog=true:=by kernel_rfl
theorem zpm:(146:TypeId)<prog.types.size:=of_decide_eq_true (by kernel_rfl)
theorem XU:Keyed prog 146:=Keyed.of_law (deep_law_laid Tryz.laidOut (m:=2) (Nat.le_of_ble_eq_true rfl) zpm (by kernel_rfl) (by kernel_rfl))
theorem zle:∃m,prog.types.size=m+1:=by
 have h:0<prog.types.size:=of_decide_eq_true (by kernel_rfl)
 exact⟨prog.types.size-1,by omega⟩
theorem K6:prog.cellsOf 146=3:=by kernel_rfl
theorem YW:prog.cellsOf 3=1:=by kernel_rfl
theorem zlf:prog.keyType 146=true:=by kernel_rfl
theorem zer{s k:Sg}(h:kC s=kC k):s=k:=by
 unfold kC at h
 injection h with h
 injection h with h
 injection h with a h
 injection h with b h
 injection h with c h
 injection a with _ a
 injection b with _ b
 injection c with _ c
 cases s;cases k;simp at*;exact⟨a,b,c⟩
theorem zmu{n:Int}(h:xg n):(Lit.int .i64 n).wf=true:=WalkArith.wf_i64 (by unfold xg at h;omega)
theorem zbG{s:Sg}(h:s.wf):∃i,keyOf prog 146 (kC s)=J i:=by
 obtain⟨m,g⟩:=zle
 obtain⟨c,d,e⟩:=h
 have f:(kC s).formed prog 146=true:=by
  simp[Value.formed,kC,underlying146,K6]
 unfold keyOf
 simp only[underlying146,zlf,f,Bool.and_self,if_true]
 have:∃b,prog.keyLits (prog.types.size+1) 146 (kC s).cells.toList=J b:=by
  rw[g]
  simp[Program.keyLits,underlying146,underlying3,kC,Value.cells,K6,YW,zmu c,zmu d,zmu e]
 obtain⟨b,a⟩:=this
 exact⟨_,by rw[a];rfl⟩
structure zoP(es:Array MapEntry)(clock:Nat)(L:LV):Prop where
 kv:es.toList.map (fun e=>(e.key,e.val))=L.map (fun p=>(kC p.1,kN p))
 born:∀e∈es.toList,e.born<clock
 once:(es.toList.map (·.born)).Nodup
 wf:∀p∈L,p.1.wf
 nodup:(zn L).Nodup
 size:es.size<=maxLen
def yA(w:E)(b:Nat)(L:LV):Prop:=∃c a,w.1[b]?=J (.map c a)/\zoP c a L
theorem yA.lt{w:E}{b:Nat}{L:LV}(h:yA w b L):b<w.1.size:=by
 obtain⟨d,a,c,_⟩:=h;exact zd c
theorem yA.kept{f:Nat->Prop}{w w':E}{b:Nat}{L:LV}(h:yA w b L)(g:zh f w w')(hn:¬f b):yA w' b L:=by
 obtain⟨c,a,d,e⟩:=h;exact⟨c,a,g.heap d hn,e⟩
theorem yA.later{w w':E}{b:Nat}{L:LV}(h:yA w b L)(a:Below w.1.size w w'):yA w' b L:=
 h.kept (f:=fun _=>False) (zh.of_below a) (fun h=>h)
theorem yA.wf{w:E}{b:Nat}{L:LV}(h:yA w b L):∀p∈L,p.1.wf:=by obtain⟨d,a,e,c⟩:=h;exact c.wf
theorem yA.made(w:E):yA (w.alloc (.map #[] 0)) w.1.size []:=⟨#[],0,zp _ _,⟨rfl,by simp,by simp,by simp,by simp[zn],by simp⟩⟩
theorem zoP.keys{c:Array MapEntry}{a:Nat}{L:LV}(h:zoP c a L):∀e∈c.toList,∃l,keyOf prog 146 e.key=J l:=fun e d=>by
 have f:(e.key,e.val)∈L.map (fun p=>(kC p.1,kN p)):=h.kv▸List.mem_map.2 ⟨e,d,rfl⟩
 obtain⟨p,g,b⟩:=List.mem_map.1 f
 injection b with b i
 rw[<-b];exact zbG (h.wf p g)
theorem zoP.at{c:Array MapEntry}{a:Nat}{L:LV}(h:zoP c a L){j:Nat}{e:MapEntry}(f:c.toList[j]?=J e):∃p,L[j]?=J p/\e.key=kC p.1/\e.val=kN p:=by
 have b:(c.toList.map (fun e=>(e.key,e.val)))[j]?=J (e.key,e.val):=by simp[f]
 rw[h.kv,List.getElem?_map]at b
 cases d:L[j]? with
 |none=>simp[d]at b
 |some p=>
  rw[d]at b
  simp at b
  exact⟨p,rfl,b.1.symm,b.2.symm⟩
theorem zif{L:LV}{s:Sg}{j:Nat}{p:Sg×SV}(a:L[j]?=J p)(e:p.1=s):s∈zn L:=by
 unfold zn;exact List.mem_map.2 ⟨p,List.mem_of_getElem? a,e⟩
theorem znA{L:LV}(hn:(zn L).Nodup){j:Nat}{p:Sg×SV}(m:L[j]?=J p):yY L p.1=J p.2:=by
 obtain⟨v,hv,n⟩:=Ql (zif m rfl)
 rw[hv]
 have k:=List.mem_of_getElem? m
 have:(p.1,v)=p:=by
  have f:L.Pairwise (fun a b=>a.1≠b.1):=by unfold zn at hn;exact List.pairwise_map.1 hn
  by_cases e:(p.1,v)=p
  ·exact e
  ·obtain⟨i,l,g⟩:=List.getElem_of_mem n
   obtain⟨i2,d,c⟩:=List.getElem_of_mem k
   rcases Nat.lt_trichotomy i i2 with h|h|h
   ·have:=List.pairwise_iff_getElem.1 f i i2 l d h;rw[g,c]at this;exact absurd rfl this
   ·subst h;rw[g]at c;exact c
   ·have:=List.pairwise_iff_getElem.1 f i2 i d l h;rw[g,c]at this;exact absurd rfl this
 rw[<-this]
def zcD(c:Bool)(z:Q)(L:LV)(s:Sg):Q:=match yY L s with
 |none=>if c then .tuple #[z,.bool false]else z
 |some v=>if c then .tuple #[kN (s,v),.bool true]else kN (s,v)
theorem zel(c:Bool){w:E}{b:Nat}{L:LV}(h:yA w b L){s:Sg}(z:s.wf):
  (Instr.lookup 152 (.map (J b)) (kC s) c).run prog w=.ok (zcD c (kN zX) L s) w:=by
 obtain⟨q,g,r,f⟩:=h
 obtain⟨F,a⟩:=zbG z
 have B:(zeroValue 148).run prog w=.ok (kN zX) w:=by kernel_rfl
 rcases XU.find w a q.toList f.keys with⟨i,k⟩|⟨j,C,i,k,u⟩
 ·have l:yY L s=none:=qR.2 (fun y=>by
   obtain⟨p,n,e⟩:=List.mem_map.1 (show s∈L.map (·.1)from y)
   have m:(kC p.1,kN p)∈q.toList.map (fun e=>(e.key,e.val)):=f.kv▸List.mem_map.2 ⟨p,n,rfl⟩
   obtain⟨x,A,ex⟩:=List.mem_map.1 m
   injection ex with t D
   exact k x A (by rw[t,e]))
  simp[Instr.lookup,run_underlying underlying152,MapKept.run_getObj_map r,XU.check w _ a,i,B,Result.andThen,zcD,l]
 ·obtain⟨p,n,v,hv⟩:=f.at k
  have d:p.1=s:=zer (v.symm.trans u)
  have l:yY L s=J p.2:=by rw[<-d];exact znA f.nodup n
  have o:p=(s,p.2):=by rw[<-d]
  rw[o]at hv
  simp[Instr.lookup,run_underlying underlying152,MapKept.run_getObj_map r,XU.check w _ a,i,Result.andThen,zcD,l,hv]
theorem zoo{b:Array MapEntry}{a:Nat}{L:LV}(h:zoP b a L):b.size=L.length:=by
 have:=congrArg List.length h.kv;simpa using this
theorem zbD{w:E}{b:Nat}{L:LV}(h:yA w b L)(P:L.length<maxLen){s:Sg}(R:s.wf)(v:SV):
  ∃o,(Instr.mapUpdate 152 (.map (J b)) (kC s) (kN (s,v))).run prog w=.ok () (setBlock w b o)/\yA (setBlock w b o) b (qT L s v)/\zh (fun k=>k=b) w (setBlock w b o)/\o.isCells=false:=by
 have K:=h.lt
 have Y:∀o,zh (fun k=>k=b) w (setBlock w b o):=fun o=>⟨rfl,rfl,rfl,by simp[setBlock],fun k X z=>by
  simp only[setBlock];rw[Array.getElem?_setIfInBounds_ne (fun e=>z e.symm)]⟩
 have B:∀o,(setBlock w b o).1[b]?=J o:=fun o=>by simp[setBlock,K]
 obtain⟨r,g,G,d⟩:=h
 obtain⟨kl,t⟩:=zbG R
 rcases XU.find w t r.toList d.keys with⟨I,y⟩|⟨j,A,I,y,V⟩
 ·have hg:s∉zn L:=(fun hm=>by
   obtain⟨p,f,e⟩:=List.mem_map.1 (show s∈L.map (·.1)from hm)
   have N:(kC p.1,kN p)∈r.toList.map (fun e=>(e.key,e.val)):=d.kv▸List.mem_map.2 ⟨p,f,rfl⟩
   obtain⟨x,n,ex⟩:=List.mem_map.1 N
   injection ex with Z e2
   exact y x n (by rw[Z,e]))
  refine⟨.map (r.push ⟨kC s,kN (s,v),g⟩) (g+1),?_,⟨_,_,B _,?_⟩,Y _,rfl⟩
  ·simp[Instr.mapUpdate,run_underlying underlying152,MapKept.run_getObj_map G,XU.check w false t,I,MapKept.run_setObj_map _ G,Result.andThen,setBlock]
  ·have f:qT L s v=L++[(s,v)]:=by unfold qT;rw[if_neg hg]
   refine⟨by rw[f];simp[d.kv],?_,?_,?_,qY d.nodup,by have:=zoo d;simp;omega⟩
   ·intro x n
    simp at n
    rcases n with n|rfl
    ·have:=d.born x (by simpa using n);omega
    ·simp
   ·rw[Array.toList_push,List.map_append,List.nodup_append]
    refine⟨d.once,by simp,fun a ha c W=>?_⟩
    simp at W;subst W
    obtain⟨x,n,rfl⟩:=List.mem_map.1 ha
    have:=d.born x n;omega
   ·rw[f];intro p f
    rcases List.mem_append.1 f with f|f
    ·exact d.wf p f
    ·simp at f;subst f;exact R
 ·obtain⟨p,f,X,hv⟩:=d.at y
  have u:p.1=s:=zer (X.symm.trans V)
  have hj:r[j]?=J A:=by simpa using y
  have M:s∈zn L:=zif f u
  have l:(r.modify j (fun H=>{H with key:=kC s,val:=kN (s,v)})).toList=r.toList.set j {A with key:=kC s,val:=kN (s,v)}:=by rw[Array.toList_modify,modify_eq_set _ _ _ _ y]
  refine⟨.map (r.modify j (fun H=>{H with key:=kC s,val:=kN (s,v)})) g,?_,⟨_,_,B _,?_⟩,Y _,rfl⟩
  ·simp[Instr.mapUpdate,run_underlying underlying152,MapKept.run_getObj_map G,XU.check w false t,I,hj,V,XU.stays w t,MapKept.run_setObj_map _ G,Result.andThen,setBlock]
  ·have D:qT L s v=L.set j (s,v):=by
    unfold qT;rw[if_pos M]
    apply List.ext_getElem?
    intro i
    rw[List.getElem?_map,List.getElem?_set]
    by_cases e:j=i
    ·subst e
     have m:j<L.length:=(List.getElem?_eq_some_iff.1 f).1
     rw[f];simp only[Option.map_some,u,if_true,m]
    ·rw[if_neg e]
     cases hi:L[i]? with
     |none=>simp
     |some q=>
      have z:q.1≠s:=fun U=>by
       have F:L.Pairwise (fun a b=>a.1≠b.1):=List.pairwise_map.1 d.nodup
       obtain⟨C,S⟩:=List.getElem?_eq_some_iff.1 hi
       obtain⟨m,T⟩:=List.getElem?_eq_some_iff.1 f
       rcases Nat.lt_or_gt_of_ne e with h|h
       ·have:=List.pairwise_iff_getElem.1 F j i m C h;rw[S,T]at this;exact this (u.trans U.symm)
       ·have:=List.pairwise_iff_getElem.1 F i j C m h;rw[S,T]at this;exact this (U.trans u.symm)
      simp[z]
   refine⟨?_,?_,?_,?_,qY d.nodup,by simpa using d.size⟩
   ·rw[l,D,List.map_set,List.map_set,d.kv]
   ·intro x n
    rw[l]at n
    rcases List.mem_or_eq_of_mem_set n with n|rfl
    ·exact d.born x n
    ·exact d.born A (List.mem_of_getElem? y)
   ·rw[l,List.map_set]
    have:(r.toList.map (·.born)).set j A.born=r.toList.map (·.born):=by
     apply List.ext_getElem?
     intro i
     rw[List.getElem?_set]
     by_cases e:j=i
     ·subst e
      have m:j<r.toList.length:=(List.getElem?_eq_some_iff.1 y).1
      simp only[List.length_map,m,if_true,List.getElem?_map,y,Option.map_some]
     ·rw[if_neg e]
    show((r.toList.map (·.born)).set j A.born).Nodup
    rw[this];exact d.once
   ·intro q O
    rcases qr O with rfl|⟨O,_⟩
    ·exact R
    ·exact d.wf q O
end Go.Proofs.YtndhpgciopcncaaGreatDoor
namespace Go.Proofs.YtndhpgciopcncaaGreatDoor
open Go.ChangeMaps (setBlock)
open Go.RowKit Go.Maps Go.Shelf
attribute [local go_sem] Oper.semAt_some
theorem xL{w:E}{r:Nat}(h:r<w.1.size)(o:Obj):(setBlock w r o).1[r]?=J o:=by simp[setBlock,h]
theorem xi{w:E}{r k:Nat}(h:k≠r)(o:Obj):(setBlock w r o).1[k]?=w.1[k]?:=by
 simp only[setBlock];rw[Array.getElem?_setIfInBounds_ne (fun e=>h e.symm)]
theorem xt(w:E)(r:Nat)(o:Obj):w.grownBy (setBlock w r o) (J r):=
 ⟨rfl,rfl,rfl,by simp[setBlock],fun k _ a=>xi (fun e=>a (by rw[e])) o⟩
def jR(b:Array MapEntry)(r:Nat)(w:E):Nat:=match w.1[r]? with
 |some (.mapIter _ _ a _)=>(leftOf b a).size
 |_=>0
theorem xn{b:Array MapEntry}{r:Nat}{w:E}{m:Option Nat}{s:Nat}{a:Array Nat}{c:Nat}(h:w.1[r]?=J (.mapIter m s a c)):jR b r w=(leftOf b a).size:=by
 unfold jR;rw[h]
theorem xw{b:Array MapEntry}{a:Array Nat}{e:MapEntry}:e∈(leftOf b a).toList↔e∈b.toList/\e.born∉a.toList:=by
 simp[leftOf]
theorem qI{b:Array MapEntry}{a:Array Nat}{e:MapEntry}(d:e∈(leftOf b a).toList):(leftOf b (a.push e.born)).size<(leftOf b a).size:=by
 have c:leftOf b (a.push e.born)=(leftOf b a).filter (fun x=>x.born !=e.born):=by
  unfold leftOf
  rw[Array.filter_filter]
  congr 1
  funext x
  by_cases h:x.born=e.born<;>simp[h]
 rw[c]
 simp
 exact⟨e,Array.mem_toList_iff.1 d,rfl⟩
structure zdt(es:Array MapEntry)(seen:Array Nat)(ps:List MapEntry):Prop where
 born:ps.map (·.born)=seen.toList
 once:(ps.map (·.born)).Nodup
 sub:∀e∈ps,e∈es.toList
theorem zdt.step{f:Array MapEntry}{c:Array Nat}{ps:List MapEntry}(h:zdt f c ps){e:MapEntry}(m:e∈(leftOf f c).toList):zdt f (c.push e.born) (ps++[e]):=by
 obtain⟨k,l⟩:=xw.1 m
 refine⟨by simp[h.born],?_,fun x d=>?_⟩
 ·rw[List.map_append,List.nodup_append]
  refine⟨h.once,by simp,fun a g b i=>?_⟩
  simp at i;subst i;intro j;subst j;rw[h.born]at g;exact l g
 ·rcases List.mem_append.1 d with d|d
  ·exact h.sub x d
  ·simp at d;subst d;exact k
theorem znj{e:Array MapEntry}(hn:(e.toList.map (·.born)).Nodup){a b:MapEntry}(m:a∈e.toList)(n:b∈e.toList)(h:a.born=b.born):a=b:=by
 have d:e.toList.Pairwise (fun a b=>a.born≠b.born):=List.pairwise_map.1 hn
 obtain⟨i,k,f⟩:=List.getElem_of_mem m
 obtain⟨j,l,g⟩:=List.getElem_of_mem n
 rcases Nat.lt_trichotomy i j with c|c|c
 ·have:=List.pairwise_iff_getElem.1 d i j k l c;rw[f,g]at this;exact absurd h this
 ·subst c;rw[<-f,g]
 ·have:=List.pairwise_iff_getElem.1 d j i l k c;rw[f,g]at this;exact absurd h.symm this
theorem zdt.all{d:Array MapEntry}{c:Array Nat}{ps:List MapEntry}(h:zdt d c ps)(hn:(d.toList.map (·.born)).Nodup)(n:(leftOf d c).size=0):ps.Perm d.toList:=by
 have g:ps.Nodup:=List.Pairwise.of_map (·.born) (fun a b h e=>h (by rw[e])) h.once
 have f:d.toList.Nodup:=List.Pairwise.of_map (·.born) (fun a b h e=>h (by rw[e])) hn
 refine(List.perm_ext_iff_of_nodup g f).2 (fun e=>⟨h.sub e,fun j=>?_⟩)
 have k:e.born∈c.toList:=by
  by_cases i:e.born∈c.toList
  ·exact i
  ·have:e∈(leftOf d c).toList:=xw.2 ⟨j,i⟩
   have o:(leftOf d c).toList=[]:=by
    apply List.eq_nil_of_length_eq_zero;simpa using n
   rw[o]at this;simp at this
 rw[<-h.born]at k
 obtain⟨x,l,m⟩:=List.mem_map.1 k
 rw[<-znj hn (h.sub x l) j m];exact l
theorem zdt.lt{d:Array MapEntry}{c:Array Nat}{ps:List MapEntry}(h:zdt d c ps){e:MapEntry}(i:e∈(leftOf d c).toList):ps.length<d.size:=by
 have g:=(h.step i)
 have f:(ps++[e]).Nodup:=List.Pairwise.of_map (·.born) (fun a b h e=>h (by rw[e])) g.once
 have:=List.Nodup.length_le_of_subset f (fun x j=>g.sub x j)
 simp at this;omega
attribute [local go_sem] Oper.semAt_some
abbrev WSg:={s:Sg//s.wf}
theorem zoM:(⟨0,0,0⟩:Sg).wf:=by refine⟨?_,?_,?_⟩<;>(unfold xg;simp)
noncomputable def zkf (s:Sg):WSg:=by classical exact if h:s.wf then⟨s,h⟩else⟨⟨0,0,0⟩,zoM⟩
theorem YB{s:Sg}(h:s.wf):(zkf s).1=s:=by unfold zkf;rw[dif_pos h]
def vy(l:List Int):Int:=l.foldl (fun s x=>wrap64 (s+x)) 0
theorem Qc(l:List Int)(x:Int):vy (l++[x])=wrap64 (vy l+x):=by simp[vy]
theorem zjV(a b:Int):wrap64 (wrap64 a+b)=wrap64 (a+b):=by unfold wrap64;omega
theorem zjW:∀l:List Int,vy l=wrap64 (qw l):=by
 intro l
 have h:∀(l:List Int) (s:Int),l.foldl (fun s x=>wrap64 (s+x)) (wrap64 s)=wrap64 (s+qw l):=by
  intro l
  induction l with
  |nil=>intro s;simp[qw]
  |cons x l a=>intro s;rw[List.foldl_cons,zjV,a,qw];congr 1;omega
 have:=h l 0
 have e:wrap64 0=0:=by unfold wrap64;omega
 rw[e]at this
 unfold vy;rw[this];congr 1;omega
theorem kV{l:List Int}(h: -9223372036854775808<=qw l/\qw l<=9223372036854775807):vy l=qw l:=by
 rw[zjW];unfold wrap64;omega
theorem zu{W c:E}{a:Option Nat}{k:Nat}{cs:Array Q}{t:TypeId}{d:Nat×Nat}(h:W.1[k]?=J (.cells cs t d))(g:W.grownBy c a)(i:∀r,a=J r->∃o:Obj,W.1[r]?=J o/\o.isCells=false):c.1[k]?=J (.cells cs t d):=by
 refine(g.block k (zd h) (fun e=>?_)).trans h
 obtain⟨o,b,f⟩:=i k e.symm
 rw[h]at b
 injection b with b
 subst b
 simp[Obj.isCells]at f
theorem yw{W a:E}(h:Below W.1.size W a):KeepsOthers W a:=⟨h.size,fun k o b _=>(h.block k (zd b)).trans b⟩
theorem xu{n D:Nat}{w W:E}{o:Obj}(h:Below n w W)(hn:n<=w.1.size)(b:n<=D)(c:W.1[D]?=J o)(a:Obj):Below n w (W.putObj D a):=
 h.grown (grownBy_putObj' W D a) (Nat.le_trans hn h.size) (fun k e=>by cases e;exact b)
structure jV(n:Nat)(Kp:E->E->Prop):Prop where
 t:∀{A B C:E},Kp A B->Kp B C->Kp A C
 b:∀(W:E) (l:Nat) (o o':Obj),n<=l->W.1[l]?=J o->o.isCells=false->o.isWalk=false->Kp W (W.putObj l o')
 of:∀(W W':E),KeepsOthers W W'->Below n W W'->Kp W W'
theorem kK(n:Nat):jV n (Below n):=⟨fun h k=>h.trans k,fun W l o b a h _ _=>(Below.refl n W).grown (grownBy_putObj' W l b) (by have:=zd h;omega) (fun k e=>by cases e;exact a),fun W c _ h=>h⟩
theorem zbK{α:Type}{w W w':E}{Kp:E->E->Prop}{f:α->Int}{a:List α}{x:α}{v:Q}{t t2:TypeId}{B:Nat}{u:Q}(n:u=I (wrap64 (vy (a.map f)+f x)))
  (h:W.1[w.1.size]?=J (.cells #[v] t (0,0))) (i2:W.1[w.1.size+1]?=J (.cells #[I (vy (a.map f))] t2 (0,0))) (i3:Below w.1.size w W) (d:jV w.1.size Kp) (b:Below W.1.size W w'):
  KeepsFrom B W (w'.setCell (U (w.1.size+1) 0) u)/\Kp W (w'.setCell (U (w.1.size+1) 0) u)/\((w'.setCell (U (w.1.size+1) 0) u).1[w.1.size]?=J (.cells #[v] t (0,0))/\(w'.setCell (U (w.1.size+1) 0) u).1[w.1.size+1]?=J (.cells #[I (vy ((a++[x]).map f))] t2 (0,0))/\Below w.1.size w (w'.setCell (U (w.1.size+1) 0) u)):=by
 subst n
 have e:=zd h
 have g:=zd i2
 have j:KeepsOthers W (w'.setCell (U (w.1.size+1) 0) (I (wrap64 (vy (a.map f)+f x)))):=(yw b).trans (KeepsOthers.setCell _ _ _)
 have k:Below w.1.size W (w'.setCell (U (w.1.size+1) 0) (I (wrap64 (vy (a.map f)+f x)))):=((b.mono i3.size).setCell (p:=(U (w.1.size+1) 0)) (Nat.le_succ _) _)
 refine⟨j.from _,d.of _ _ j k,?_,?_,i3.trans k⟩
 ·have l:=(b.block _ e).trans h
  show(w'.setCell (U (w.1.size+1) 0) _).1[w.1.size]?=_
  have c:=((Below.refl (w.1.size+1) w').setCell (p:=(U (w.1.size+1) 0)) (Nat.le_refl _) (I (wrap64 (vy (a.map f)+f x)))).block w.1.size (Nat.lt_succ_self _)
  exact c.trans l
 ·have m:=(b.block _ g).trans i2
  rw[List.map_append,List.map_singleton,Qc]
  exact xy (i:=0) m _
end Go.Proofs.YtndhpgciopcncaaGreatDoor
