import Derived.Test.YtndhpgciopcncaaGreatDoorHRef5
import Derived.Maps.Keyed
import Derived.Maps.RangeRun
import Derived.DeepKeys4
import Derived.RangeFuncOwn
import Derived.RangeFuncNested
import Derived.RangeFuncBound
import Derived.RangeFuncCalls
import Derived.RangeFuncLeaves
import Derived.Shelf.Abstract
import Derived.Shelf.RegionOpen
import Derived.WalkKit
import Derived.OwnWalkIn
import Derived.TacticsInMore
import Derived.LoopNIn
import Derived.LoopIn
open Option renaming some → J
open Go renaming World → E
open Go renaming Value → Q
open Go.Value (int)
open Go.IntKind (i32)
set_option linter.unusedVariables false
open Go.Proofs.Tryz
namespace Go.Proofs.YtndhpgciopcncaaGreatDoor
open Go.RowKit
variable {c:Cf} {sr tm val:Int} {xs:List Q} {k n size:Nat} {x:Nm} {s:Sg} {w:E}
def onB(c:Cf)(a b:Sg):Bool:=if a.t= -1\/c.F a.t.toNat≠b.t\/a.sr≠b.sr then false else(b.wn*c.wh b.t/c.wh a.t==a.wn)
theorem on_1{a b:Sg}(h:a.t= -1):onB c a b=false:=by simp[onB,h]
section
variable {α:Type} (lt:α->α->Bool)
def Vl(x:α):List α->List α
 |[]=>[x]
 |y::r=>if lt x y then x::y::r else y::Vl x r
end
def Qb(a b:Tk):Bool:=if a.kind≠b.kind then decide (a.kind<b.kind)else if a.s.t≠b.s.t then decide (a.s.t<b.s.t)else if a.s.sr≠b.s.sr then decide (a.s.sr<b.s.sr)else decide (a.s.wn<b.s.wn)
theorem kI{b b':Nat}{e:TypeId}{v:Q}(h:w.ownsRow b e size v n xs)(d:b'<=b):w.ownsRow b' e size v n xs:=by
 refine⟨h.1,?_⟩;rcases h.2 with c|⟨g,cap,a,rfl,f,r⟩
 ·exact .inl c
 ·exact .inr ⟨g,cap,a,rfl,Nat.le_trans d f,r⟩
def JJ(m:RM)(s:Sg):Bool:=!(s.t== -1)&&!QC s m.pub&&!QC s m.gone&&!decide (m.now-m.c.la<m.c.end s)
def Xt(m:RM)(s:Sg):Bool:=!QC s m.gone&&!(decide (0<=s.t)&&!QC s m.pub)&&!decide (m.now<m.c.end s+m.c.keep s.t)
def zkC(m:RM)(s x:Sg):Bool:=onB m.c s x&&decide (0<=x.t)&&!QC x m.pub
def zhv(m:RM)(s x:Sg):Bool:=onB m.c x s&&!QC x m.pub&&!QC x m.gone
def KL(m:RM)(s:Sg)(l:List Sg):Bool:=JJ m s&&l.all (fun x=>!zkC m s x)
def KM(m:RM)(s:Sg)(l:List Sg):Bool:=Xt m s&&l.all (fun x=>!zhv m s x)
def zpZ(m:RM)(kind:Int)(s:Sg):Tk:=⟨kind,s,m.now,0,0,0,0,-1,0⟩
def kV(kind:Int)(s:Sg)(t x:Tk):Tk:=if x.kind=kind/\x.s=s then x else t
def yH(m:RM)(kind:Int)(s:Sg):Tk:=m.td.foldl (kV kind s) (zpZ m kind s)
def vD(m:RM)(kind:Int)(s:Sg)(l:List Sg):Bool:=if kind=1 then KL m s l else KM m s l
def jq(m:RM)(l:List Sg)(kind:Int)(out:List Tk)(s:Sg):List Tk:=if vD m kind s l then Vl Qb (yH m kind s) out else out
def ZW(m:RM)(l:List Sg)(i:Nat):List Tk:=(l.take i).foldl (fun out s=>jq m l 2 (jq m l 1 out s) s) []
def RM.settled(m:RM):RM:={m with td:=ZW m (xd m.c m.nu) (xd m.c m.nu).length}
theorem zp{p:Nat}{cs:Array Q}{T e:TypeId}{fr:Nat×Nat}{B:Nat}{v:Q}(h:w.1[p]?=J (.cells cs T fr))(g:w.ownsRow B e size v n xs)(d:T≠e):∀k,v.ownBlock=J k->¬k=p:=fun k f b=>by
 subst b;obtain⟨c,a⟩:=zH g f;rw[h]at a;injection a with a;injection a with _ a;exact d a
def RM.tick(m:RM)(n:Int):RM×Int:=if n<1\/1000<n\/100000<m.now+n then(m,5)else({m with now:=m.now+n}.settled,0)
variable {m:RM}
theorem zfb{n:Int}(h:n<1\/1000<n\/100000<m.now+n):m.tick n=(m,5):=by simp[RM.tick,h]
theorem jJ{base:Nat}{e:TypeId}{v:Q}(h:w.ownsRow base e size v n xs):w.drew.ownsRow base e size v n xs:=h
theorem vG{w':E}{row:Option Nat}(h:w.drew.grownBy w' row):w.grownBy w' row:=⟨h.os,h.tape,h.output,h.size,h.block⟩
theorem jI(w:E)(o:Obj):(w.alloc o).drew.1[w.1.size]?=J o:=zq w o
theorem zU{B1 B2 m n n1 l:Nat}{d e:TypeId}{f v2:Q}{o p:List Q}(g:w.ownsRow B1 d m f n1 o)(h:w.ownsRow B2 e n v2 l p)(i:d≠e):∀k,f.ownBlock=J k->¬v2.ownBlock=J k:=fun k j c=>by
 obtain⟨q,b⟩:=zH g j;obtain⟨r,hc2⟩:=zH h c;rw[b]at hc2;injection hc2 with a;injection a with _ a;exact i a
def Zp(m:RM)(L:List Sg)(x:Nm)(k:Nat):Int:=(List.range k).foldl (fun(c:Int) (t:Nat)=>if zG m.c (t:Int) x∈L then c else c+2) (m.used+1)
theorem znM{L:List Sg}(h:zG m.c (k:Int) x∈L):Zp m L x (k+1)=Zp m L x k:=by simp[Zp,List.range_succ,h]
theorem zkH{L:List Sg}(h:¬zG m.c (k:Int) x∈L):Zp m L x (k+1)=Zp m L x k+2:=by simp[Zp,List.range_succ,h]
def RM.ingest(m:RM)(sr tm val:Int):RM×Int:=
 if sr<0\/4<=sr then(m,2)
 else if tm<0\/m.now<tm then(m,5)
 else if tm<m.now-m.c.la then(m,3)
 else if m.c.qu<Zp m (xd m.c m.nu) ⟨sr,tm,val⟩ m.c.n then(m,4)
 else({m with nu:=m.nu++[Nm.mk sr tm val]}.settled,0)
theorem zfH(h:sr<0\/4<=sr):m.ingest sr tm val=(m,2):=by simp[RM.ingest,h]
theorem zdc(h:¬(sr<0\/4<=sr))(a:tm<0\/m.now<tm):m.ingest sr tm val=(m,5):=by unfold RM.ingest;rw[if_neg h,if_pos a]
theorem zdb(h:¬(sr<0\/4<=sr))(a:¬(tm<0\/m.now<tm))(b:tm<m.now-m.c.la):m.ingest sr tm val=(m,3):=by unfold RM.ingest;rw[if_neg h,if_neg a,if_pos b]
theorem zda(h:¬(sr<0\/4<=sr))(a:¬(tm<0\/m.now<tm))(b:¬tm<m.now-m.c.la)(d:m.c.qu<Zp m (xd m.c m.nu) ⟨sr,tm,val⟩ m.c.n):m.ingest sr tm val=(m,4):=by unfold RM.ingest;rw[if_neg h,if_neg a,if_neg b,if_pos d]
theorem zie(h:¬(sr<0\/4<=sr))(a:¬(tm<0\/m.now<tm))(b:¬tm<m.now-m.c.la)(d:¬m.c.qu<Zp m (xd m.c m.nu) ⟨sr,tm,val⟩ m.c.n):m.ingest sr tm val=({m with nu:=m.nu++[Nm.mk sr tm val]}.settled,0):=by unfold RM.ingest;rw[if_neg h,if_neg a,if_neg b,if_neg d]
structure SV where
 st:Int
 cl:Cl
abbrev LV:=List (Sg×SV)
def qA:Cl:=⟨0,0,0,0⟩
def zn(L:LV):List Sg:=L.map (·.1)
def ko(L:LV)(s:Sg):Option SV:=(L.find? (fun p=>decide (p.1=s))).map (·.2)
def qS(L:LV)(s:Sg)(v:SV):LV:=if s∈zn L then L.map (fun p=>if p.1=s then(s,v)else p)else L++[(s,v)]
def stL(L:LV)(s:Sg):SV:=(ko L s).getD ⟨0,qA⟩
def kf(v:SV):Int:=if v.st=1 then v.cl.cnt else 2
def qJ:List Int->Int
 |[]=>0
 |a::l=>a+qJ l
def zV(L:LV):Int:=qJ (L.map (fun p=>kf p.2))
def zgQ(k:Int)(v:SV):Int:=if v.st=k then 1 else 0
def xc(L:LV)(k:Int):Int:=qJ (L.map (fun p=>zgQ k p.2))
theorem Va(a b:List Int):qJ (a++b)=qJ a+qJ b:=by
 induction a with
 |nil=>simp[qJ]
 |cons x l c=>simp only[List.cons_append,qJ,c];omega
theorem vK{a b:List Int}(h:a.Perm b):qJ a=qJ b:=by
 induction h with
 |nil=>rfl
 |cons x _ e=>simp only[qJ,e]
 |swap x y l=>simp only[qJ];omega
 |trans _ _ c d=>exact c.trans d
theorem Jn{α:Type}(f:α->Int):∀(l:List α) (u:Int),l.foldl (fun n s=>n+f s) u=u+qJ (l.map f)
 |[],u=>by simp[qJ]
 |a::l,u=>by rw[List.foldl_cons,Jn f l (u+f a)];simp only[List.map_cons,qJ];omega
variable {L:LV}
theorem ye:ko L s=none↔s∉zn L:=by
 unfold ko zn;rw[Option.map_eq_none_iff,List.find?_eq_none];simp only[decide_eq_true_eq,List.mem_map];constructor
 ·rintro h ⟨p,a,rfl⟩;exact h p a rfl
 ·rintro h p a e;exact h ⟨p,a,e⟩
variable {v:SV}
theorem vU(h:ko L s=J v):(s,v)∈L:=by
 unfold ko at h;rw[Option.map_eq_some_iff]at h;obtain⟨p,b,rfl⟩:=h;have a:=List.find?_some b;have c:=List.mem_of_find?_eq_some b;simp at a;subst a;exact c
theorem Qv(h:s∈zn L):∃v,ko L s=J v/\(s,v)∈L:=by
 cases e:ko L s with
 |none=>exact absurd h (ye.1 e)
 |some v=>exact⟨v,rfl,vU e⟩
theorem xN{k:Sg}:k∈zn (qS L s v)↔k∈zn L\/k=s:=by
 unfold qS;by_cases h:s∈zn L
 ·rw[if_pos h];have:zn (L.map (fun p=>if p.1=s then(s,v)else p))=zn L:=by
   unfold zn;rw[List.map_map];apply List.map_congr_left;intro p _;simp only[Function.comp];split<;>simp_all
  rw[this];constructor
  ·exact .inl
  ·rintro(a|rfl)<;>assumption
 ·rw[if_neg h];simp[zn]
theorem yo(h:(zn L).Nodup):(zn (qS L s v)).Nodup:=by
 unfold qS;by_cases c:s∈zn L
 ·rw[if_pos c];have:zn (L.map (fun p=>if p.1=s then(s,v)else p))=zn L:=by
   unfold zn;rw[List.map_map];apply List.map_congr_left;intro p _;simp only[Function.comp];split<;>simp_all
  rw[this];exact h
 ·rw[if_neg c];unfold zn at*;rw[List.map_append,List.nodup_append];refine⟨h,by simp,fun a f b d=>?_⟩;simp at d;subst d;intro e;subst e;exact c f
theorem qv{p:Sg×SV}(h:p∈qS L s v):p=(s,v)\/(p∈L/\p.1≠s):=by
 unfold qS at h;by_cases a:s∈zn L
 ·rw[if_pos a,List.mem_map]at h;obtain⟨q,b,rfl⟩:=h;by_cases e:q.1=s
  ·left;simp[e]
  ·right;simp[e,b]
 ·rw[if_neg a,List.mem_append]at h;rcases h with h|h
  ·right;exact⟨h,fun e=>a (by unfold zn;exact List.mem_map.2 ⟨p,h,e⟩)⟩
  ·left;simpa using h
theorem XH(f:SV->Int)(h:s∉zn L):qJ ((qS L s v).map (fun p=>f p.2))=qJ (L.map (fun p=>f p.2))+f v:=by
 unfold qS;rw[if_neg h,List.map_append,Va];simp[qJ]
theorem zfU(f:SV->Int):s∉zn L->(L.map (fun p=>if p.1=s then(s,v)else p)).map (fun p=>f p.2)=L.map (fun p=>f p.2):=by
 intro h;rw[List.map_map];apply List.map_congr_left;intro p a;have:¬p.1=s:=fun e=>h (by unfold zn;exact List.mem_map.2 ⟨p,a,e⟩);simp[this]
theorem Vb{s:Sg}{u v:SV}(f:SV->Int):∀{L:LV},(zn L).Nodup->(s,u)∈L->qJ ((L.map (fun p=>if p.1=s then(s,v)else p)).map (fun p=>f p.2))=qJ (L.map (fun p=>f p.2))-f u+f v
 |[],_,h=>by simp at h
 |q::L,hn,h=>by
  unfold zn at hn;rw[List.map_cons,List.nodup_cons]at hn;rw[List.mem_cons]at h;rcases h with rfl|h
  ·have a:=zfU (L:=L) (s:=s) (v:=v) f hn.1;rw[List.map_cons,List.map_cons,List.map_cons,a];simp only[qJ,if_true];omega
  ·have b:¬q.1=s:=fun e=>hn.1 (by rw[e];exact List.mem_map.2 ⟨_,h,rfl⟩);have:=Vb f (L:=L) (s:=s) (u:=u) (v:=v) hn.2 h;rw[List.map_cons,List.map_cons,List.map_cons];simp only[b,if_false,qJ];rw[this];omega
def zoe(c:Cf)(nu:List Nm)(s:Sg):SV:=if s.t= -1 then⟨1,qB c s nu⟩else⟨2,qA⟩
section
variable {c:Cf} {nu:List Nm} {L:LV}
end
theorem zaW{c:Cf}{s:Sg}:∀(nu:List Nm) (a:Cl),(∀x∈nu,¬zG c s.t x=s)->nu.foldl (yA c s) a=a
 |[],a,_=>rfl
 |x::r,a,h=>by
  rw[List.foldl_cons,yA,if_neg (h x (by simp))];exact zaW r a (fun y b=>h y (by simp[b]))
theorem zaV{c:Cf}{s:Sg}:∀(nu:List Nm) (a:Cl),a.cnt<=(nu.foldl (yA c s) a).cnt
 |[],a=>Int.le_refl _
 |x::r,a=>by
  rw[List.foldl_cons];have:=zaV (c:=c) (s:=s) r (yA c s a x);have b:a.cnt<=(yA c s a x).cnt:=by
   unfold yA;split
   ·simp only[zfj];omega
   ·omega
  omega
theorem zdZ{c:Cf}{s:Sg}:∀(nu:List Nm) (a:Cl),0<=a.cnt->(∃x∈nu,zG c s.t x=s)->1<=(nu.foldl (yA c s) a).cnt
 |[],a,_,h=>by obtain⟨x,b,_⟩:=h;simp at b
 |x::r,a,g,h=>by
  rw[List.foldl_cons];by_cases b:zG c s.t x=s
  ·have:=zaV (c:=c) (s:=s) r (yA c s a x);have f:(yA c s a x).cnt=a.cnt+1:=(by simp[yA,b,zfj]);omega
  ·have f:yA c s a x=a:=(by simp[yA,b]);rw[f];obtain⟨y,d,e⟩:=h;rw[List.mem_cons]at d;rcases d with rfl|d
   ·exact absurd e b
   ·exact zdZ r a g ⟨y,d,e⟩
theorem zaZ{nu:List Nm}(b: -1<=s.t)(d:s.t<c.n):(qB c s nu).cnt=0↔s∉xd c nu:=by
 constructor
 ·intro h f;obtain⟨_,_,x,a,e⟩:=jE.1 f;have:=zdZ (c:=c) (s:=s) nu ⟨0,0,0,0⟩ (by simp) ⟨x,a,e.symm⟩;unfold qB at h;omega
 ·intro h;have:qB c s nu=⟨0,0,0,0⟩:=zaW nu _ (fun x a e=>h (jE.2 ⟨b,d,x,a,e.symm⟩));rw[this]
def qU(v:Int):Option Cl->Cl
 |none=>⟨1,v,v,v⟩
 |some o=>⟨1+o.cnt,v+o.sum,if o.mn<v then o.mn else v,if v<o.mx then o.mx else v⟩
def xr(c:Cf)(x:Nm):Sg:=zG c (-1) x
def qW(c:Cf)(L:LV)(x:Nm):LV:=qS L (xr c x) ⟨1,qU x.val ((ko L (xr c x)).map (·.cl))⟩
def qs(c:Cf)(x:Nm)(k:Nat)(L:LV):LV:=if zG c (k:Int) x∈zn L then L else qS L (zG c (k:Int) x) ⟨2,qA⟩
def kM(c:Cf)(x:Nm):Nat->LV->LV
 |0,L=>L
 |k+1,L=>qs c x k (kM c x k L)
def yv(c:Cf)(L:LV)(x:Nm):LV:=kM c x c.n (qW c L x)
def yn(c:Cf)(L:LV)(x:Nm):Nat->Int
 |0=>0
 |k+1=>yn c L x k+(if zG c (k:Int) x∈zn L then 0 else 1)
theorem vV(c:Cf)(L:LV)(x:Nm):∀k:Nat,0<=yn c L x k/\yn c L x k<=k
 |0=>by simp[yn]
 |k+1=>by have:=vV c L x k;simp only[yn];split<;>omega
section
variable {c:Cf} {nu:List Nm} {L:LV}
theorem zjs{i j:Int}(h:i≠j):zG c i x≠zG c j x:=fun e=>h (by injection e)
structure Mid(c:Cf)(nu:List Nm)(x:Nm)(k:Nat)(L:LV):Prop where
 nodup:(zn L).Nodup
 keys:∀s,s∈zn L↔s∈xd c nu\/s=xr c x\/∃j:Nat,j<k/\s=zG c (j:Int) x
 vals:∀p∈L,p.2=zoe c (nu++[x]) p.1
theorem Mid.step(h:Mid c nu x k L):Mid c nu x (k+1) (qs c x k L):=by
 unfold qs;by_cases d:zG c (k:Int) x∈zn L
 ·rw[if_pos d];refine⟨h.nodup,fun s=>?_,h.vals⟩;rw[h.keys];constructor
  ·rintro(a|a|⟨j,b,a⟩)
   ·exact .inl a
   ·exact .inr (.inl a)
   ·exact .inr (.inr ⟨j,by omega,a⟩)
  ·rintro(a|a|⟨j,b,a⟩)
   ·exact .inl a
   ·exact .inr (.inl a)
   ·by_cases e:j=k
    ·subst e;subst a;exact(h.keys _).1 d
    ·exact .inr (.inr ⟨j,by omega,a⟩)
 ·rw[if_neg d];refine⟨yo h.nodup,fun s=>?_,fun p f=>?_⟩
  ·rw[xN,h.keys];constructor
   ·rintro((a|a|⟨j,b,a⟩)|a)
    ·exact .inl a
    ·exact .inr (.inl a)
    ·exact .inr (.inr ⟨j,by omega,a⟩)
    ·exact .inr (.inr ⟨k,by omega,a⟩)
   ·rintro(a|a|⟨j,b,a⟩)
    ·exact .inl (.inl a)
    ·exact .inl (.inr (.inl a))
    ·by_cases e:j=k
     ·subst e;exact .inr a
     ·exact .inl (.inr (.inr ⟨j,by omega,a⟩))
  ·rcases qv f with rfl|⟨f,_⟩
   ·show(⟨2,qA⟩:SV)=zoe c (nu++[x]) (zG c (k:Int) x);unfold zoe;rw[if_neg (show¬(zG c (k:Int) x).t= -1 by simp only[zG];omega)]
   ·exact h.vals p f
theorem Mid.to{x:Nm}(h:Mid c nu x 0 L):∀k,Mid c nu x k (kM c x k L)
 |0=>h
 |k+1=>(Mid.to h k).step
theorem JQ(x:Nm)(j:Nat)(k:Nat):zG c (j:Int) x∈zn (kM c x k (qW c L x))↔zG c (j:Int) x∈zn L\/j<k:=by
 induction k with
 |zero=>
  show _∈zn (qS _ _ _)↔_;rw[xN];constructor
  ·rintro(h|h)
   ·exact .inl h
   ·exact absurd h (zjs (by omega))
  ·rintro(h|h)
   ·exact .inl h
   ·omega
 |succ k b=>
  show _∈zn (qs c x k _)↔_;unfold qs;by_cases a:zG c (k:Int) x∈zn (kM c x k (qW c L x))
  ·rw[if_pos a,b];constructor
   ·rintro(h|h)
    ·exact .inl h
    ·exact .inr (by omega)
   ·rintro(h|h)
    ·exact .inl h
    ·by_cases e:j=k
     ·subst e;exact b.1 a
     ·exact .inr (by omega)
  ·rw[if_neg a,xN,b];constructor
   ·rintro((h|h)|h)
    ·exact .inl h
    ·exact .inr (by omega)
    ·right;have:(j:Int)=(k:Int):=(by injection h);omega
   ·rintro(h|h)
    ·exact .inl (.inl h)
    ·by_cases e:j=k
     ·subst e;exact .inr rfl
     ·exact .inl (.inr (by omega))
theorem zpd(x:Nm)(k:Nat):zV (kM c x k (qW c L x))=zV (qW c L x)+2*yn c L x k:=by
 induction k with
 |zero=>simp[kM,yn]
 |succ k d=>
  show zV (qs c x k _)=_;unfold qs;have b:=JQ (c:=c) (L:=L) x k k;simp only[Nat.lt_irrefl,or_false]at b;by_cases h:zG c (k:Int) x∈zn L
  ·rw[if_pos (b.2 h),d];simp[yn,h]
  ·rw[if_neg (fun a=>h (b.1 a))];unfold zV at d ⊢;rw[XH kf (fun a=>h (b.1 a)),d];simp[yn,h,kf];omega
end
theorem Tryz.infoTierR:(prog.info? 80).map (fun i=>(i.zero,i.size,i.bytes))=J (J (.agg #[I 0,I 0,I 0]),3,24):=by kernel_rfl
theorem zjX{a:Option Addr}{F W K:Nat->Int}(h:TS w a n F W K):0<(ZC n F W K).length->∃ad,a=J ad/\∀j v,(ZC n F W K)[j]?=J v->w.cell? (ad.add j)=J v:=by
 intro l;rw[qI]at l;obtain⟨b,f,rfl,_,m⟩:=h (by omega);refine⟨_,rfl,fun j v hv=>?_⟩;have o:j<n*3:=by
  have:=(List.getElem?_eq_some_iff.1 hv).1;rwa[qI]at this
 rw[zaq n F W K j o]at hv;cases hv;have d:((U b f):Addr).add j=(U b (f+j)):=by unfold Addr.add;split<;>simp_all
 rw[d];obtain⟨g,i,k⟩:=m (j/3) (by omega);rcases(show j%3=0\/j%3=1\/j%3=2 by omega)with e|e|e
 ·have c:j=j/3*3:=by omega
  rw[c,znG];exact g
 ·have c:j=j/3*3+1:=by omega
  rw[c,zhD];exact i
 ·have c:j=j/3*3+2:=by omega
  rw[c,znH];exact k
end Go.Proofs.YtndhpgciopcncaaGreatDoor
namespace Go.Proofs.YtndhpgciopcncaaGreatDoor
open Go.RowKit Go.Maps
open Go.ChangeMaps (setBlock modify_eq_set)
variable {es:Array MapEntry} {L:LV} {b clock j:Nat} {w w':E}
abbrev SX:=Sg×SV
abbrev xZz(x:SX):Array Q:=#[I x.1.t,I x.1.sr,I x.1.wn,I x.2.st,I x.2.cl.cnt,I x.2.cl.sum,int i32 x.2.cl.mn,int i32 x.2.cl.mx]
def zX:SX:=(⟨0,0,0⟩,⟨0,qA⟩)
def vk(x:SX):Q:=.agg (xZz x)
def xz(n:Int):Prop:= -9223372036854775808<=n/\n<=9223372036854775807
def Sg.wf(s:Sg):Prop:=xz s.t/\xz s.sr/\xz s.wn
theorem Tryz.laidOut:laidOutB prog=true:=by kernel_rfl
theorem zpO:(146:TypeId)<prog.types.size:=of_decide_eq_true (by kernel_rfl)
theorem Q8:Keyed prog 146:=Keyed.of_law (deep_law_laid Tryz.laidOut (m:=2) (Nat.le_of_ble_eq_true rfl) zpO (by kernel_rfl) (by kernel_rfl))
theorem zlp:∃m,prog.types.size=m+1:=by
 have h:0<prog.types.size:=of_decide_eq_true (by kernel_rfl);exact⟨prog.types.size-1,by omega⟩
theorem Ko:prog.cellsOf 146=3:=by kernel_rfl
theorem Kj:prog.cellsOf 3=1:=by kernel_rfl
theorem zlq:prog.keyType 146=true:=by kernel_rfl
variable {s:Sg}
theorem zeT{k:Sg}(h:kR s=kR k):s=k:=by
 unfold kR at h;injection h with h;injection h with h;injection h with a h;injection h with b h;injection h with c h;injection a with _ a;injection b with _ b;injection c with _ c;cases s;cases k;simp at*;exact⟨a,b,c⟩
theorem zmC{n:Int}(h:xz n):(Lit.int .i64 n).wf=true:=WalkArith.wf_i64 (by unfold xz at h;omega)
theorem zcl(h:s.wf):∃g,keyOf prog 146 (kR s)=J g:=by
 obtain⟨m,f⟩:=zlp;obtain⟨b,c,d⟩:=h;have e:(kR s).formed prog 146=true:=by
  simp[Value.formed,kR,underlying146,Ko]
 unfold keyOf;simp only[underlying146,zlq,e,Bool.and_self,if_true];have:∃ls,prog.keyLits (prog.types.size+1) 146 (kR s).cells.toList=J ls:=by
  rw[f];simp[Program.keyLits,underlying146,underlying3,kR,Value.cells,Ko,Kj,zmC b,zmC c,zmC d]
 obtain⟨ls,a⟩:=this;exact⟨_,by rw[a];rfl⟩
structure zpp(es:Array MapEntry)(clock:Nat)(L:LV):Prop where
 kv:es.toList.map (fun e=>(e.key,e.val))=L.map (fun p=>(kR p.1,vk p))
 born:∀e∈es.toList,e.born<clock
 once:(es.toList.map (·.born)).Nodup
 wf:∀p∈L,p.1.wf
 nodup:(zn L).Nodup
 size:es.size<=maxLen
def yI(w:E)(b:Nat)(L:LV):Prop:=∃es clock,w.1[b]?=J (.map es clock)/\zpp es clock L
theorem yI.lt(h:yI w b L):b<w.1.size:=by
 obtain⟨es,clock,a,_⟩:=h;exact zd a
theorem yI.kept{f:Nat->Prop}(h:yI w b L)(d:zi f w w')(hn:¬f b):yI w' b L:=by
 obtain⟨es,clock,a,c⟩:=h;exact⟨es,clock,d.heap a hn,c⟩
theorem yI.later(h:yI w b L)(a:Below w.1.size w w'):yI w' b L:=
 h.kept (f:=fun _=>False) (zi.of_below a) (fun h=>h)
theorem yI.wf(h:yI w b L):∀p∈L,p.1.wf:=by obtain⟨es,clock,c,a⟩:=h;exact a.wf
theorem yI.made(w:E):yI (w.alloc (.map #[] 0)) w.1.size []:=⟨#[],0,zq _ _,⟨rfl,by simp,by simp,by simp,by simp[zn],by simp⟩⟩
theorem zpp.keys(h:zpp es clock L):∀e∈es.toList,∃l,keyOf prog 146 e.key=J l:=fun e b=>by
 have c:(e.key,e.val)∈L.map (fun p=>(kR p.1,vk p)):=h.kv▸List.mem_map.2 ⟨e,b,rfl⟩;obtain⟨p,d,a⟩:=List.mem_map.1 c;injection a with a f;rw[<-a];exact zcl (h.wf p d)
theorem zpp.at(h:zpp es clock L){e:MapEntry}(c:es.toList[j]?=J e):∃p,L[j]?=J p/\e.key=kR p.1/\e.val=vk p:=by
 have a:(es.toList.map (fun e=>(e.key,e.val)))[j]?=J (e.key,e.val):=by simp[c]
 rw[h.kv,List.getElem?_map]at a;cases b:L[j]? with
 |none=>simp[b]at a
 |some p=>
  rw[b]at a;simp at a;exact⟨p,rfl,a.1.symm,a.2.symm⟩
variable {p:Sg×SV}
theorem ziq(a:L[j]?=J p)(e:p.1=s):s∈zn L:=by
 unfold zn;exact List.mem_map.2 ⟨p,List.mem_of_getElem? a,e⟩
theorem zob(hn:(zn L).Nodup)(m:L[j]?=J p):ko L p.1=J p.2:=by
 obtain⟨v,hv,n⟩:=Qv (ziq m rfl);rw[hv];have k:=List.mem_of_getElem? m;have:(p.1,v)=p:=by
  have f:L.Pairwise (fun a b=>a.1≠b.1):=by unfold zn at hn;exact List.pairwise_map.1 hn
  by_cases e:(p.1,v)=p
  ·exact e
  ·obtain⟨i,l,g⟩:=List.getElem_of_mem n;obtain⟨i2,d,c⟩:=List.getElem_of_mem k;rcases Nat.lt_trichotomy i i2 with h|h|h
   ·have:=List.pairwise_iff_getElem.1 f i i2 l d h;rw[g,c]at this;exact absurd rfl this
   ·subst h;rw[g]at c;exact c
   ·have:=List.pairwise_iff_getElem.1 f i2 i d l h;rw[g,c]at this;exact absurd rfl this
 rw[<-this]
def zdk(c:Bool)(z:Q)(L:LV)(s:Sg):Q:=match ko L s with
 |none=>if c then .tuple #[z,.bool false]else z
 |some v=>if c then .tuple #[vk (s,v),.bool true]else vk (s,v)
theorem zeM(c:Bool)(h:yI w b L)(v:s.wf):
  (Instr.lookup 152 (.map (J b)) (kR s) c).run prog w=.ok (zdk c (vk zX) L s) w:=by
 obtain⟨es,clock,o,f⟩:=h;obtain⟨C,a⟩:=zcl v;have z:(zeroValue 148).run prog w=.ok (vk zX) w:=by kernel_rfl
 rcases Q8.find w a es.toList f.keys with⟨g,i⟩|⟨j,A,g,i,r⟩
 ·have k:ko L s=none:=ye.2 (fun u=>by
   obtain⟨p,m,e⟩:=List.mem_map.1 (show s∈L.map (·.1)from u);have l:(kR p.1,vk p)∈es.toList.map (fun e=>(e.key,e.val)):=f.kv▸List.mem_map.2 ⟨p,m,rfl⟩;obtain⟨x,y,ex⟩:=List.mem_map.1 l;injection ex with q B;exact i x y (by rw[q,e]))
  simp[Instr.lookup,run_underlying underlying152,MapKept.run_getObj_map o,Q8.check w _ a,g,z,Result.andThen,zdk,k]
 ·obtain⟨p,m,t,hv⟩:=f.at i;have d:p.1=s:=zeT (t.symm.trans r);have k:ko L s=J p.2:=by rw[<-d];exact zob f.nodup m
  have n:p=(s,p.2):=by rw[<-d]
  rw[n]at hv;simp[Instr.lookup,run_underlying underlying152,MapKept.run_getObj_map o,Q8.check w _ a,g,Result.andThen,zdk,k,hv]
theorem zoO(h:zpp es clock L):es.size=L.length:=by
 have:=congrArg List.length h.kv;simpa using this
theorem zci(h:yI w b L)(N:L.length<maxLen)(O:s.wf)(v:SV):
  ∃o,(Instr.mapUpdate 152 (.map (J b)) (kR s) (vk (s,v))).run prog w=.ok () (setBlock w b o)/\yI (setBlock w b o) b (qS L s v)/\zi (fun k=>k=b) w (setBlock w b o)/\o.isCells=false:=by
 have H:=h.lt;have W:∀o,zi (fun k=>k=b) w (setBlock w b o):=fun o=>⟨rfl,rfl,rfl,by simp[setBlock],fun k V u=>by
  simp only[setBlock];rw[Array.getElem?_setIfInBounds_ne (fun e=>u e.symm)]⟩
 have z:∀o,(setBlock w b o).1[b]?=J o:=fun o=>by simp[setBlock,H]
 obtain⟨es,clock,D,d⟩:=h;obtain⟨kl,n⟩:=zcl O;rcases Q8.find w n es.toList d.keys with⟨G,t⟩|⟨j,y,G,t,T⟩
 ·have Z:s∉zn L:=(fun hm=>by
   obtain⟨p,f,e⟩:=List.mem_map.1 (show s∈L.map (·.1)from hm);have K:(kR p.1,vk p)∈es.toList.map (fun e=>(e.key,e.val)):=d.kv▸List.mem_map.2 ⟨p,f,rfl⟩;obtain⟨x,m,ex⟩:=List.mem_map.1 K;injection ex with X e2;exact t x m (by rw[X,e]))
  refine⟨.map (es.push ⟨kR s,vk (s,v),clock⟩) (clock+1),?_,⟨_,_,z _,?_⟩,W _,rfl⟩
  ·simp[Instr.mapUpdate,run_underlying underlying152,MapKept.run_getObj_map D,Q8.check w false n,G,MapKept.run_setObj_map _ D,Result.andThen,setBlock]
  ·have f:qS L s v=L++[(s,v)]:=(by unfold qS;rw[if_neg Z]);refine⟨by rw[f];simp[d.kv],?_,?_,?_,yo d.nodup,by have:=zoO d;simp;omega⟩
   ·intro x m;simp at m;rcases m with m|rfl
    ·have:=d.born x (by simpa using m);omega
    ·simp
   ·rw[Array.toList_push,List.map_append,List.nodup_append];refine⟨d.once,by simp,fun a Y c U=>?_⟩;simp at U;subst U;obtain⟨x,m,rfl⟩:=List.mem_map.1 Y;have:=d.born x m;omega
   ·rw[f];intro p f;rcases List.mem_append.1 f with f|f
    ·exact d.wf p f
    ·simp at f;subst f;exact O
 ·obtain⟨p,f,V,hv⟩:=d.at t;have r:p.1=s:=zeT (V.symm.trans T);have hj:es[j]?=J y:=by simpa using t
  have I:s∈zn L:=ziq f r;have g:(es.modify j (fun F=>{F with key:=kR s,val:=vk (s,v)})).toList=es.toList.set j {y with key:=kR s,val:=vk (s,v)}:=by rw[Array.toList_modify,modify_eq_set _ _ _ _ t]
  refine⟨.map (es.modify j (fun F=>{F with key:=kR s,val:=vk (s,v)})) clock,?_,⟨_,_,z _,?_⟩,W _,rfl⟩
  ·simp[Instr.mapUpdate,run_underlying underlying152,MapKept.run_getObj_map D,Q8.check w false n,G,hj,T,Q8.stays w n,MapKept.run_setObj_map _ D,Result.andThen,setBlock]
  ·have B:qS L s v=L.set j (s,v):=by
    unfold qS;rw[if_pos I];apply List.ext_getElem?;intro i;rw[List.getElem?_map,List.getElem?_set];by_cases e:j=i
    ·subst e;have l:j<L.length:=(List.getElem?_eq_some_iff.1 f).1;rw[f];simp only[Option.map_some,r,if_true,l]
    ·rw[if_neg e];cases hi:L[i]? with
     |none=>simp
     |some q=>
      have u:q.1≠s:=fun S=>by
       have C:L.Pairwise (fun a b=>a.1≠b.1):=List.pairwise_map.1 d.nodup;obtain⟨A,P⟩:=List.getElem?_eq_some_iff.1 hi;obtain⟨l,R⟩:=List.getElem?_eq_some_iff.1 f;rcases Nat.lt_or_gt_of_ne e with h|h
       ·have:=List.pairwise_iff_getElem.1 C j i l A h;rw[P,R]at this;exact this (r.trans S.symm)
       ·have:=List.pairwise_iff_getElem.1 C i j A l h;rw[P,R]at this;exact this (S.trans r.symm)
      simp[u]
   refine⟨?_,?_,?_,?_,yo d.nodup,by simpa using d.size⟩
   ·rw[g,B,List.map_set,List.map_set,d.kv]
   ·intro x m;rw[g]at m;rcases List.mem_or_eq_of_mem_set m with m|rfl
    ·exact d.born x m
    ·exact d.born y (List.mem_of_getElem? t)
   ·rw[g,List.map_set];have:(es.toList.map (·.born)).set j y.born=es.toList.map (·.born):=by
     apply List.ext_getElem?;intro i;rw[List.getElem?_set];by_cases e:j=i
     ·subst e;have l:j<es.toList.length:=(List.getElem?_eq_some_iff.1 t).1;simp only[List.length_map,l,if_true,List.getElem?_map,t,Option.map_some]
     ·rw[if_neg e]
    show((es.toList.map (·.born)).set j y.born).Nodup;rw[this];exact d.once
   ·intro q M;rcases qv M with rfl|⟨M,_⟩
    ·exact O
    ·exact d.wf q M
end Go.Proofs.YtndhpgciopcncaaGreatDoor
namespace Go.Proofs.YtndhpgciopcncaaGreatDoor
open Go.ChangeMaps (setBlock)
open Go.RowKit Go.Maps Go.Shelf
variable {es:Array MapEntry} {seen:Array Nat} {ps:List MapEntry} {e:MapEntry} {k r:Nat} {W W' w:E}
attribute [local go_sem] Oper.semAt_some
theorem xO(h:r<w.1.size)(o:Obj):(setBlock w r o).1[r]?=J o:=by simp[setBlock,h]
theorem xq(h:k≠r)(o:Obj):(setBlock w r o).1[k]?=w.1[k]?:=by
 simp only[setBlock];rw[Array.getElem?_setIfInBounds_ne (fun e=>h e.symm)]
theorem xA(w:E)(r:Nat)(o:Obj):w.grownBy (setBlock w r o) (J r):=
 ⟨rfl,rfl,rfl,by simp[setBlock],fun k _ a=>xq (fun e=>a (by rw[e])) o⟩
def Z9(es:Array MapEntry)(r:Nat)(w:E):Nat:=match w.1[r]? with
 |some (.mapIter _ _ seen _)=>(leftOf es seen).size
 |_=>0
theorem xv{m:Option Nat}{s:Nat}{c:Nat}(h:w.1[r]?=J (.mapIter m s seen c)):Z9 es r w=(leftOf es seen).size:=by
 unfold Z9;rw[h]
theorem xF:e∈(leftOf es seen).toList↔e∈es.toList/\e.born∉seen.toList:=by
 simp[leftOf]
theorem qR(b:e∈(leftOf es seen).toList):(leftOf es (seen.push e.born)).size<(leftOf es seen).size:=by
 have a:leftOf es (seen.push e.born)=(leftOf es seen).filter (fun x=>x.born !=e.born):=by
  unfold leftOf;rw[Array.filter_filter];congr 1
  funext x
  by_cases h:x.born=e.born<;>simp[h]
 rw[a];simp;exact⟨e,Array.mem_toList_iff.1 b,rfl⟩
structure zdT(es:Array MapEntry)(seen:Array Nat)(ps:List MapEntry):Prop where
 born:ps.map (·.born)=seen.toList
 once:(ps.map (·.born)).Nodup
 sub:∀e∈ps,e∈es.toList
theorem zdT.step(h:zdT es seen ps)(k:e∈(leftOf es seen).toList):zdT es (seen.push e.born) (ps++[e]):=by
 obtain⟨i,j⟩:=xF.1 k;refine⟨by simp[h.born],?_,fun x c=>?_⟩
 ·rw[List.map_append,List.nodup_append];refine⟨h.once,by simp,fun a d b f=>?_⟩;simp at f;subst f;intro g;subst g;rw[h.born]at d;exact j d
 ·rcases List.mem_append.1 c with c|c
  ·exact h.sub x c
  ·simp at c;subst c;exact i
theorem znF(hn:(es.toList.map (·.born)).Nodup){a b:MapEntry}(l:a∈es.toList)(m:b∈es.toList)(h:a.born=b.born):a=b:=by
 have d:es.toList.Pairwise (fun a b=>a.born≠b.born):=List.pairwise_map.1 hn;obtain⟨i,g,e⟩:=List.getElem_of_mem l;obtain⟨j,k,f⟩:=List.getElem_of_mem m;rcases Nat.lt_trichotomy i j with c|c|c
 ·have:=List.pairwise_iff_getElem.1 d i j g k c;rw[e,f]at this;exact absurd h this
 ·subst c;rw[<-e,f]
 ·have:=List.pairwise_iff_getElem.1 d j i k g c;rw[e,f]at this;exact absurd h.symm this
theorem zdT.all(h:zdT es seen ps)(hn:(es.toList.map (·.born)).Nodup)(l:(leftOf es seen).size=0):ps.Perm es.toList:=by
 have d:ps.Nodup:=List.Pairwise.of_map (·.born) (fun a b h e=>h (by rw[e])) h.once;have c:es.toList.Nodup:=List.Pairwise.of_map (·.born) (fun a b h e=>h (by rw[e])) hn;refine(List.perm_ext_iff_of_nodup d c).2 (fun e=>⟨h.sub e,fun g=>?_⟩);have i:e.born∈seen.toList:=by
  by_cases f:e.born∈seen.toList
  ·exact f
  ·have:e∈(leftOf es seen).toList:=xF.2 ⟨g,f⟩;have m:(leftOf es seen).toList=[]:=by
    apply List.eq_nil_of_length_eq_zero;simpa using l
   rw[m]at this;simp at this
 rw[<-h.born]at i;obtain⟨x,j,k⟩:=List.mem_map.1 i;rw[<-znF hn (h.sub x j) g k];exact j
theorem zdT.lt(h:zdT es seen ps)(f:e∈(leftOf es seen).toList):ps.length<es.size:=by
 have d:=(h.step f);have c:(ps++[e]).Nodup:=List.Pairwise.of_map (·.born) (fun a b h e=>h (by rw[e])) d.once;have:=List.Nodup.length_le_of_subset c (fun x g=>d.sub x g);simp at this;omega
attribute [local go_sem] Oper.semAt_some
abbrev WSg:={s:Sg//s.wf}
theorem zpm:(⟨0,0,0⟩:Sg).wf:=by refine⟨?_,?_,?_⟩<;>(unfold xz;simp)
noncomputable def zkp (s:Sg):WSg:=by classical exact if h:s.wf then⟨s,h⟩else⟨⟨0,0,0⟩,zpm⟩
theorem YN{s:Sg}(h:s.wf):(zkp s).1=s:=by unfold zkp;rw[dif_pos h]
def vN(l:List Int):Int:=l.foldl (fun s x=>wrap64 (s+x)) 0
theorem Qm(l:List Int)(x:Int):vN (l++[x])=wrap64 (vN l+x):=by simp[vN]
theorem zkg(a b:Int):wrap64 (wrap64 a+b)=wrap64 (a+b):=by unfold wrap64;omega
theorem zkh:∀l:List Int,vN l=wrap64 (qJ l):=by
 intro l;have h:∀(l:List Int) (s:Int),l.foldl (fun s x=>wrap64 (s+x)) (wrap64 s)=wrap64 (s+qJ l):=by
  intro l;induction l with
  |nil=>intro s;simp[qJ]
  |cons x l a=>intro s;rw[List.foldl_cons,zkg,a,qJ];congr 1;omega
 have:=h l 0;have e:wrap64 0=0:=by unfold wrap64;omega
 rw[e]at this;unfold vN;rw[this];congr 1;omega
theorem vs{l:List Int}(h: -9223372036854775808<=qJ l/\qJ l<=9223372036854775807):vN l=qJ l:=by
 rw[zkh];unfold wrap64;omega
theorem zv{row:Option Nat}{cs:Array Q}{t:TypeId}{fr:Nat×Nat}(h:W.1[k]?=J (.cells cs t fr))(c:W.grownBy W' row)(d:∀r,row=J r->∃o:Obj,W.1[r]?=J o/\o.isCells=false):W'.1[k]?=J (.cells cs t fr):=by
 refine(c.block k (zd h) (fun e=>?_)).trans h;obtain⟨o,a,b⟩:=d k e.symm;rw[h]at a;injection a with a;subst a;simp[Obj.isCells]at b
theorem yF(h:Below W.1.size W W'):KeepsOthers W W':=⟨h.size,fun k o a _=>(h.block k (zd a)).trans a⟩
theorem xE{n D:Nat}{o:Obj}(h:Below n w W)(hn:n<=w.1.size)(a:n<=D)(b:W.1[D]?=J o)(o':Obj):Below n w (W.putObj D o'):=
 h.grown (grownBy_putObj' W D o') (Nat.le_trans hn h.size) (fun k e=>by cases e;exact a)
structure Zf(n:Nat)(Kp:E->E->Prop):Prop where
 t:∀{A B C:E},Kp A B->Kp B C->Kp A C
 b:∀(W:E) (l:Nat) (o o':Obj),n<=l->W.1[l]?=J o->o.isCells=false->o.isWalk=false->Kp W (W.putObj l o')
 of:∀(W W':E),KeepsOthers W W'->Below n W W'->Kp W W'
theorem vh(n:Nat):Zf n (Below n):=⟨fun h k=>h.trans k,fun W l o o' a h _ _=>(Below.refl n W).grown (grownBy_putObj' W l o') (by have:=zd h;omega) (fun k e=>by cases e;exact a),fun W W' _ h=>h⟩
theorem zcq{α:Type}{w':E}{Kp:E->E->Prop}{f:α->Int}{a:List α}{x:α}{v:Q}{t t2:TypeId}{B:Nat}{u:Q}(m:u=I (wrap64 (vN (a.map f)+f x)))(h:W.1[w.1.size]?=J (.cells #[v] t (0,0)))(i2:W.1[w.1.size+1]?=J (.cells #[I (vN (a.map f))] t2 (0,0)))(i3:Below w.1.size w W)(d:Zf w.1.size Kp)(b:Below W.1.size W w'):
  KeepsFrom B W (w'.setCell (U (w.1.size+1) 0) u)/\Kp W (w'.setCell (U (w.1.size+1) 0) u)/\((w'.setCell (U (w.1.size+1) 0) u).1[w.1.size]?=J (.cells #[v] t (0,0))/\(w'.setCell (U (w.1.size+1) 0) u).1[w.1.size+1]?=J (.cells #[I (vN ((a++[x]).map f))] t2 (0,0))/\Below w.1.size w (w'.setCell (U (w.1.size+1) 0) u)):=by
 subst m;have e:=zd h;have g:=zd i2;have j:KeepsOthers W (w'.setCell (U (w.1.size+1) 0) (I (wrap64 (vN (a.map f)+f x)))):=(yF b).trans (KeepsOthers.setCell _ _ _);have k2:Below w.1.size W (w'.setCell (U (w.1.size+1) 0) (I (wrap64 (vN (a.map f)+f x)))):=((b.mono i3.size).setCell (p:=(U (w.1.size+1) 0)) (Nat.le_succ _) _);refine⟨j.from _,d.of _ _ j k2,?_,?_,i3.trans k2⟩
 ·have k:=(b.block _ e).trans h;show(w'.setCell (U (w.1.size+1) 0) _).1[w.1.size]?=_;have c:=((Below.refl (w.1.size+1) w').setCell (p:=(U (w.1.size+1) 0)) (Nat.le_refl _) (I (wrap64 (vN (a.map f)+f x)))).block w.1.size (Nat.lt_succ_self _);exact c.trans k
 ·have l:=(b.block _ g).trans i2;rw[List.map_append,List.map_singleton,Qm];exact xD (i:=0) l _
end Go.Proofs.YtndhpgciopcncaaGreatDoor
