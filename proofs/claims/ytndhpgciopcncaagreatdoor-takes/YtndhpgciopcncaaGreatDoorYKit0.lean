import Derived.Test.YtndhpgciopcncaaGreatDoorYLater
import Derived.Maps.Keyed
import Derived.Maps.RangeRun
import Derived.RangeFuncOwn
import Derived.WalkKit
import Derived.Test.YtndhpgciopcncaaGreatDoorYConf0
import Derived.RangeFuncNested
import Derived.RangeFuncBound
import Derived.RangeFuncCalls
import Derived.RangeFuncLeaves
import Derived.StillTail
import Derived.StillTactics
import Derived.OrdersIn
import Derived.TacticsIn
open Go renaming World → O
open Option renaming some → U
open Option renaming none → G
open Go renaming Value → z0
open Nat renaming le_refl → z1
open List renaming mem_cons → z2
open Go.Value (int)
open Go.IntKind (i64)
open Go.IntKind (i32)
set_option linter.unusedVariables false
namespace Go.Proofs.YtndhpgciopcncaaGreatDoor
open Go.RowKit Go.Maps
open Go.ChangeMaps (setBlock modify_eq_set)
structure MK(α β:Type) where
 P:Program
 T:TypeId
 K:TypeId
 E:TypeId
 ke:α->z0
 ve:β->z0
 wf:α->Prop
 z:z0
structure MK.Ok{α β:Type}(M:MK α β):Prop where
 law:Keyed M.P M.K
 und:M.P.underlying M.T=U (.map M.K M.E)
 key:∀a,M.wf a->∃kl,keyOf M.P M.K (M.ke a)=U kl
 inj:∀a b,M.ke a=M.ke b->a=b
 zero:∀w,(zeroValue M.E).run M.P w=.ok M.z w
section
variable {α β:Type}
def zo(L:List (α×β)):List α:=L.map (·.1)
structure kR(M:MK α β)(es:Array MapEntry)(clock:Nat)(L:List (α×β)):Prop where
 kv:es.toList.map (fun e=>(e.key,e.val))=L.map (fun p=>(M.ke p.1,M.ve p.2))
 born:∀e∈es.toList,e.born<clock
 once:(es.toList.map (·.born)).Nodup
 wf:∀p∈L,M.wf p.1
 nodup:(zo L).Nodup
 size:es.size<=maxLen
def xj(M:MK α β)(w:O)(b:Nat)(L:List (α×β)):Prop:=∃c a,w.1[b]?=U (.map c a)/\kR M c a L
variable {M:MK α β}
theorem xj.lt{w:O}{b:Nat}{L:List (α×β)}(h:xj M w b L):b<w.1.size:=by
 obtain⟨d,a,c,_⟩:=h;exact zb c
theorem xj.kept{f:Nat->Prop}{w w':O}{b:Nat}{L:List (α×β)}(h:xj M w b L)(g:zk f w w')(hn:¬f b):xj M w' b L:=by
 obtain⟨c,a,d,e⟩:=h;exact⟨c,a,g.heap d hn,e⟩
theorem xj.later{w w':O}{b:Nat}{L:List (α×β)}(h:xj M w b L)(a:Below w.1.size w w'):xj M w' b L:=
 h.kept (f:=fun _=>False) (zk.of_below a) (fun h=>h)
theorem xj.wf{w:O}{b:Nat}{L:List (α×β)}(h:xj M w b L):∀p∈L,M.wf p.1:=by obtain⟨d,a,e,c⟩:=h;exact c.wf
theorem xj.nodup{w:O}{b:Nat}{L:List (α×β)}(h:xj M w b L):(zo L).Nodup:=by obtain⟨d,a,e,c⟩:=h;exact c.nodup
theorem xj.made(w:O):xj M (w.alloc (.map #[] 0)) w.1.size []:=⟨#[],0,World.alloc_heap_new w _,⟨rfl,by simp,by simp,by simp,by simp[zo],by simp⟩⟩
theorem xj.same{w w':O}{b:Nat}{L:List (α×β)}(h:xj M w b L)(e:w'.1[b]?=w.1[b]?):xj M w' b L:=by
 obtain⟨c,a,d,f⟩:=h;exact⟨c,a,e.trans d,f⟩
theorem kR.keys(ok:M.Ok){c:Array MapEntry}{a:Nat}{L:List (α×β)}(h:kR M c a L):∀e∈c.toList,∃l,keyOf M.P M.K e.key=U l:=fun e d=>by
 have f:(e.key,e.val)∈L.map (fun p=>(M.ke p.1,M.ve p.2)):=h.kv▸List.mem_map.2 ⟨e,d,rfl⟩
 obtain⟨p,g,b⟩:=List.mem_map.1 f
 injection b with b i
 rw[<-b];exact ok.key _ (h.wf p g)
theorem kR.at{c:Array MapEntry}{a:Nat}{L:List (α×β)}(h:kR M c a L){j:Nat}{e:MapEntry}(f:c.toList[j]?=U e):∃p,L[j]?=U p/\e.key=M.ke p.1/\e.val=M.ve p.2:=by
 have b:(c.toList.map (fun e=>(e.key,e.val)))[j]?=U (e.key,e.val):=by simp[f]
 rw[h.kv,List.getElem?_map]at b
 cases d:L[j]? with
 |none=>simp[d]at b
 |some p=>
  rw[d]at b
  simp at b
  exact⟨p,rfl,b.1.symm,b.2.symm⟩
theorem kR.absent{b:Array MapEntry}{a:Nat}{L:List (α×β)}(h:kR M b a L){s:α}(f:∀e∈b.toList,e.key≠M.ke s):s∉zo L:=fun g=>by
 obtain⟨p,i,e⟩:=List.mem_map.1 (show s∈L.map (·.1)from g)
 have c:(M.ke p.1,M.ve p.2)∈b.toList.map (fun e=>(e.key,e.val)):=h.kv▸List.mem_map.2 ⟨p,i,rfl⟩
 obtain⟨x,j,ex⟩:=List.mem_map.1 c
 injection ex with d k
 exact f x j (by rw[d,e])
theorem kR.count{b:Array MapEntry}{a:Nat}{L:List (α×β)}(h:kR M b a L):b.size=L.length:=by
 have:=congrArg List.length h.kv;simpa using this
theorem zhj(ok:M.Ok){w:O}{b:Nat}{L:List (α×β)}(h:xj M w b L)(e:TypeId):(Builtin.len_ #[M.T] e #[.map (U b)]).run M.P w=.ok (int i64 L.length) w:=by
 obtain⟨f,a,c,d⟩:=h
 have:=d.count
 simp[Builtin.len_,run_underlying ok.und,MapKept.run_getObj_map c,goInt,Result.andThen,this]
end
section
variable {α β:Type} [DecidableEq α]
def zS(L:List (α×β))(a:α):Option β:=(L.find? (fun p=>decide (p.1=a))).map (·.2)
def qI(L:List (α×β))(a:α)(v:β):List (α×β):=if a∈zo L then L.map (fun p=>if p.1=a then(a,v)else p)else L++[(a,v)]
def xn(L:List (α×β))(a:α):List (α×β):=L.filter (fun p=>decide (p.1≠a))
theorem xm{L:List (α×β)}{a:α}:zS L a=G↔a∉zo L:=by
 unfold zS zo
 rw[Option.map_eq_none_iff,List.find?_eq_none]
 constructor
 ·intro h c
  obtain⟨p,b,e⟩:=List.mem_map.1 c
  exact h p b (by simpa using e)
 ·intro h p b e
  exact h (List.mem_map.2 ⟨p,b,by simpa using e⟩)
theorem zA{L:List (α×β)}{a:α}{v:β}(h:zS L a=U v):(a,v)∈L:=by
 unfold zS at h
 obtain⟨p,b,e⟩:=Option.map_eq_some_iff.1 h
 have c:=List.mem_of_find?_eq_some b
 have d:=List.find?_some b
 have f:p.1=a:=by simpa using d
 subst f;subst e;exact c
theorem xu{L:List (α×β)}(hn:(zo L).Nodup){a:α}{v:β}(h:(a,v)∈L):zS L a=U v:=by
 cases g:zS L a with
 |none=>exact absurd (List.mem_map.2 ⟨_,h,rfl⟩) (xm.1 g)
 |some u=>
  have m:=zA g
  have d:L.Pairwise (fun a b=>a.1≠b.1):=List.pairwise_map.1 hn
  obtain⟨i,k,f⟩:=List.getElem_of_mem m
  obtain⟨j,l,e⟩:=List.getElem_of_mem h
  rcases Nat.lt_trichotomy i j with c|c|c
  ·have:=List.pairwise_iff_getElem.1 d i j k l c;rw[f,e]at this;exact absurd rfl this
  ·subst c;rw[f]at e;cases e;rfl
  ·have:=List.pairwise_iff_getElem.1 d j i l k c;rw[f,e]at this;exact absurd rfl this
theorem xg{L:List (α×β)}{a:α}{v:β}{k:α}:k∈zo (qI L a v)↔k∈zo L\/k=a:=by
 unfold qI
 split
 next h=>
  have e:zo (L.map (fun p=>if p.1=a then(a,v)else p))=zo L:=by
   unfold zo;rw[List.map_map]
   apply List.map_congr_left
   intro p _
   by_cases c:p.1=a<;>simp[c]
  rw[e]
  exact⟨.inl,fun b=>b.elim id (fun e=>e▸h)⟩
 next h=>simp[zo]
theorem zeq{L:List (α×β)}{a:α}{v:β}:zo (qI L a v)=if a∈zo L then zo L else zo L++[a]:=by
 unfold qI
 split
 next h=>
  unfold zo;rw[List.map_map]
  apply List.map_congr_left
  intro p _
  by_cases b:p.1=a<;>simp[b]
 next h=>simp[zo]
theorem qp{L:List (α×β)}{a:α}{v:β}(h:(zo L).Nodup):(zo (qI L a v)).Nodup:=by
 rw[zeq]
 split
 next=>exact h
 next hn=>
  rw[List.nodup_append]
  refine⟨h,by simp,fun x b y c e=>?_⟩
  simp at c
  rw[c]at e;rw[e]at b;exact hn b
theorem yc{L:List (α×β)}{a:α}{v:β}{p:α×β}(h:p∈qI L a v):p=(a,v)\/(p∈L/\p.1≠a):=by
 unfold qI at h
 split at h
 next hin=>
  obtain⟨q,c,e⟩:=List.mem_map.1 h
  by_cases b:q.1=a
  ·rw[if_pos b]at e;exact .inl e.symm
  ·rw[if_neg b]at e;subst e;exact .inr ⟨c,b⟩
 next hn=>
  rcases List.mem_append.1 h with h|h
  ·exact .inr ⟨h,fun e=>hn (List.mem_map.2 ⟨p,h,e⟩)⟩
  ·simp at h;exact .inl h
theorem jq{L:List (α×β)}(hn:(zo L).Nodup)(a:α)(v:β)(k:α):zS (qI L a v) k=if k=a then U v else zS L k:=by
 have c:=qp (a:=a) (v:=v) hn
 split
 next h=>
  subst h
  refine xu c ?_
  unfold qI
  split
  next hin=>
   obtain⟨q,f,e⟩:=List.mem_map.1 hin
   exact List.mem_map.2 ⟨q,f,by rw[if_pos e]⟩
  next=>simp
 next h=>
  cases d:zS L k with
  |none=>exact xm.2 (fun b=>by
   rcases xg.1 b with b|b
   ·exact xm.1 d b
   ·exact h b)
  |some u=>
   refine xu c ?_
   have b:=zA d
   unfold qI
   split
   next=>exact List.mem_map.2 ⟨_,b,by rw[if_neg h]⟩
   next=>exact List.mem_append_left _ b
theorem zL{L:List (α×β)}{a:α}{p:α×β}:p∈xn L a↔p∈L/\p.1≠a:=by unfold xn;simp
theorem QF{L:List (α×β)}{a:α}:zo (xn L a)=(zo L).filter (fun k=>decide (k≠a)):=by
 unfold zo xn;rw[List.filter_map];rfl
theorem xX{L:List (α×β)}{a:α}(h:(zo L).Nodup):(zo (xn L a)).Nodup:=by rw[QF];exact h.filter _
theorem zbn{L:List (α×β)}(hn:(zo L).Nodup)(a k:α):zS (xn L a) k=if k=a then G else zS L k:=by
 split
 next h=>
  subst h
  exact xm.2 (by rw[QF];simp)
 next h=>
  cases b:zS L k with
  |none=>exact xm.2 (by rw[QF];simp;intro c;exact absurd c (xm.1 b))
  |some u=>exact xu (xX hn) (zL.2 ⟨zA b,h⟩)
theorem kw{L:List (α×β)}{a:α}{v:β}:(qI L a v).length=if a∈zo L then L.length else L.length+1:=by
 unfold qI;split<;>simp
variable {M:MK α β}
def ziC(M:MK α β)(c:Bool)(o:Option β):z0:=match o with
 |none=>if c then .tuple #[M.z,.bool false]else M.z
 |some v=>if c then .tuple #[M.ve v,.bool true]else M.ve v
theorem vl(ok:M.Ok)(c:Bool){w:O}{b:Nat}{L:List (α×β)}(h:xj M w b L){s:α}(r:M.wf s):
  (Instr.lookup M.T (.map (U b)) (M.ke s) c).run M.P w=.ok (ziC M c (zS L s)) w:=by
 obtain⟨m,e,l,d⟩:=h
 obtain⟨u,a⟩:=ok.key s r
 rcases ok.law.find w a m.toList (d.keys ok)with⟨f,g⟩|⟨j,t,f,g,n⟩
 ·have i:zS L s=G:=xm.2 (d.absent g)
  simp[Instr.lookup,run_underlying ok.und,MapKept.run_getObj_map l,ok.law.check w _ a,f,ok.zero w,Result.andThen,ziC,i]
 ·obtain⟨p,q,o,hv⟩:=d.at g
  have k:p.1=s:=ok.inj _ _ (o.symm.trans n)
  have i:zS L s=U p.2:=by rw[<-k];exact xu d.nodup (List.mem_of_getElem? q)
  simp[Instr.lookup,run_underlying ok.und,MapKept.run_getObj_map l,ok.law.check w _ a,f,Result.andThen,ziC,i,hv]
theorem qT{w:O}{b:Nat}(o:Obj):zk (fun k=>k=b) w (setBlock w b o):=⟨rfl,rfl,rfl,by simp[setBlock],fun k c a=>by
  simp only[setBlock];rw[Array.getElem?_setIfInBounds_ne (fun e=>a e.symm)]⟩
theorem jz(ok:M.Ok){w:O}{b:Nat}{L:List (α×β)}(h:xj M w b L)(Q:L.length<maxLen){s:α}(R:M.wf s)(v:β):
  ∃o,(Instr.mapUpdate M.T (.map (U b)) (M.ke s) (M.ve v)).run M.P w=.ok () (setBlock w b o)/\xj M (setBlock w b o) b (qI L s v)/\zk (fun k=>k=b) w (setBlock w b o)/\o.isCells=false:=by
 have I:=h.lt
 have A:∀o,(setBlock w b o).1[b]?=U o:=fun o=>by simp[setBlock,I]
 obtain⟨r,f,E,d⟩:=h
 obtain⟨kl,t⟩:=ok.key s R
 rcases ok.law.find w t r.toList (d.keys ok)with⟨H,y⟩|⟨j,z,H,y,X⟩
 ·have hg:s∉zo L:=d.absent y
  refine⟨.map (r.push ⟨M.ke s,M.ve v,f⟩) (f+1),?_,⟨_,_,A _,?_⟩,qT _,rfl⟩
  ·simp[Instr.mapUpdate,run_underlying ok.und,MapKept.run_getObj_map E,ok.law.check w false t,H,MapKept.run_setObj_map _ E,Result.andThen,setBlock]
  ·have l:qI L s v=L++[(s,v)]:=by unfold qI;rw[if_neg hg]
   refine⟨by rw[l];simp[d.kv],?_,?_,?_,qp d.nodup,by have:=d.count;simp;omega⟩
   ·intro x n
    simp at n
    rcases n with n|rfl
    ·have:=d.born x (by simpa using n);omega
    ·simp
   ·rw[Array.toList_push,List.map_append,List.nodup_append]
    refine⟨d.once,by simp,fun a Z c Y=>?_⟩
    simp at Y;subst Y
    obtain⟨x,n,rfl⟩:=List.mem_map.1 Z
    have:=d.born x n;omega
   ·rw[l];intro p l
    rcases List.mem_append.1 l with l|l
    ·exact d.wf p l
    ·simp at l;subst l;exact R
 ·obtain⟨p,l,hk,hv⟩:=d.at y
  have u:p.1=s:=ok.inj _ _ (hk.symm.trans X)
  have hj:r[j]?=U z:=by simpa using y
  have J:s∈zo L:=by unfold zo;exact List.mem_map.2 ⟨p,List.mem_of_getElem? l,u⟩
  have g:(r.modify j (fun F=>{F with key:=M.ke s,val:=M.ve v})).toList=r.toList.set j {z with key:=M.ke s,val:=M.ve v}:=by rw[Array.toList_modify,modify_eq_set _ _ _ _ y]
  refine⟨.map (r.modify j (fun F=>{F with key:=M.ke s,val:=M.ve v})) f,?_,⟨_,_,A _,?_⟩,qT _,rfl⟩
  ·simp[Instr.mapUpdate,run_underlying ok.und,MapKept.run_getObj_map E,ok.law.check w false t,H,hj,X,ok.law.stays w t,MapKept.run_setObj_map _ E,Result.andThen,setBlock]
  ·have C:qI L s v=L.set j (s,v):=by
    unfold qI;rw[if_pos J]
    apply List.ext_getElem?
    intro i
    rw[List.getElem?_map,List.getElem?_set]
    by_cases e:j=i
    ·subst e
     have m:j<L.length:=(List.getElem?_eq_some_iff.1 l).1
     rw[l];simp only[Option.map_some,u,if_true,m]
    ·rw[if_neg e]
     cases hi:L[i]? with
     |none=>simp
     |some q=>
      have K:q.1≠s:=fun W=>by
       have D:L.Pairwise (fun a b=>a.1≠b.1):=List.pairwise_map.1 d.nodup
       obtain⟨B,S⟩:=List.getElem?_eq_some_iff.1 hi
       obtain⟨m,V⟩:=List.getElem?_eq_some_iff.1 l
       rcases Nat.lt_or_gt_of_ne e with h|h
       ·have:=List.pairwise_iff_getElem.1 D j i m B h;rw[S,V]at this;exact this (u.trans W.symm)
       ·have:=List.pairwise_iff_getElem.1 D i j B m h;rw[S,V]at this;exact this (W.trans u.symm)
      simp[K]
   refine⟨?_,?_,?_,?_,qp d.nodup,by simpa using d.size⟩
   ·rw[g,C,List.map_set,List.map_set,d.kv]
   ·intro x n
    rw[g]at n
    rcases List.mem_or_eq_of_mem_set n with n|rfl
    ·exact d.born x n
    ·exact d.born z (List.mem_of_getElem? y)
   ·rw[g,List.map_set]
    have:(r.toList.map (·.born)).set j z.born=r.toList.map (·.born):=by
     apply List.ext_getElem?
     intro i
     rw[List.getElem?_set]
     by_cases e:j=i
     ·subst e
      have m:j<r.toList.length:=(List.getElem?_eq_some_iff.1 y).1
      simp only[List.length_map,m,if_true,List.getElem?_map,y,Option.map_some]
     ·rw[if_neg e]
    show((r.toList.map (·.born)).set j z.born).Nodup
    rw[this];exact d.once
   ·intro q N
    rcases yc N with rfl|⟨N,_⟩
    ·exact R
    ·exact d.wf q N
theorem zbN(ok:M.Ok){w:O}{b:Nat}{L:List (α×β)}{k:Array MapEntry}{c:Nat}(E:w.1[b]?=U (.map k c))(g:kR M k c L){s:α}(hs:M.wf s)(ty:TypeId):
  ∃n,(Builtin.delete_ #[M.T,M.K] ty #[.map (U b),M.ke s]).run M.P w=.ok (.tuple #[]) (setBlock w b (.map n c))/\kR M n c (xn L s)/\(∀e,e∈n.toList↔e∈k.toList/\e.key≠M.ke s):=by
 obtain⟨kl,o⟩:=ok.key s hs
 rcases ok.law.find w o k.toList (g.keys ok)with⟨H,v⟩|⟨j,e0,H,v,S⟩
 ·have Y:s∉zo L:=g.absent v
  have I:xn L s=L:=by
   unfold xn;rw[List.filter_eq_self]
   intro p B;simp;intro e;exact Y (List.mem_map.2 ⟨p,B,e⟩)
  refine⟨k,?_,by rw[I];exact g,fun e=>⟨fun h=>⟨h,v e h⟩,fun h=>h.1⟩⟩
  simp[Builtin.delete_,run_underlying ok.und,MapKept.run_getObj_map E,ok.law.check w _ o,H,MapKept.run_setObj_map _ E,Result.andThen,setBlock]
 ·obtain⟨p,B,hk,hv⟩:=g.at v
  have t:p.1=s:=ok.inj _ _ (hk.symm.trans S)
  have J:j<k.toList.length:=(List.getElem?_eq_some_iff.1 v).1
  have N:j<k.size:=by simpa using J
  have f:(k.eraseIdxIfInBounds j).toList=k.toList.eraseIdx j:=by
   unfold Array.eraseIdxIfInBounds
   rw[dif_pos N]
   simp
  have C:L.Pairwise (fun a b=>a.1≠b.1):=List.pairwise_map.1 g.nodup
  have z:j<L.length:=(List.getElem?_eq_some_iff.1 B).1
  have d:∀i q,L[i]?=U q->i≠j->q.1≠s:=fun i q l r R=>by
   obtain⟨y,u⟩:=List.getElem?_eq_some_iff.1 l
   obtain⟨_,D⟩:=List.getElem?_eq_some_iff.1 B
   rcases Nat.lt_or_gt_of_ne r with h|h
   ·have:=List.pairwise_iff_getElem.1 C i j y z h;rw[u,D]at this;exact this (R.trans t.symm)
   ·have:=List.pairwise_iff_getElem.1 C j i z y h;rw[u,D]at this;exact this (t.trans R.symm)
  have I:xn L s=L.eraseIdx j:=by
   have W:L=L.take j++p::L.drop (j+1):=by
    obtain⟨A,D⟩:=List.getElem?_eq_some_iff.1 B
    rw[<-D,<-List.drop_eq_getElem_cons A];exact(List.take_append_drop j L).symm
   have t1:∀q∈L.take j,q.1≠s:=fun q m=>by
    obtain⟨i,l,u⟩:=List.getElem_of_mem m
    have Z:i<j:=by simp at l;omega
    exact d i q (by rw[<-u];simp[List.getElem_take]) (by omega)
   have t2:∀q∈L.drop (j+1),q.1≠s:=fun q m=>by
    obtain⟨i,l,u⟩:=List.getElem_of_mem m
    exact d (j+1+i) q (by rw[<-u];simp at l ⊢) (by omega)
   rw[List.eraseIdx_eq_take_drop_succ]
   unfold xn
   conv=>lhs;rw[W]
   rw[List.filter_append,List.filter_cons_of_neg (by simp[t]),List.filter_eq_self.2 (fun q m=>by simpa using t1 q m),List.filter_eq_self.2 (fun q m=>by simpa using t2 q m)]
  refine⟨k.eraseIdxIfInBounds j,?_,⟨?_,?_,?_,?_,xX g.nodup,?_⟩,?_⟩
  ·simp[Builtin.delete_,run_underlying ok.und,MapKept.run_getObj_map E,ok.law.check w _ o,H,MapKept.run_setObj_map _ E,Result.andThen,setBlock]
  ·rw[f,I,Go.ChangeMaps.map_eraseIdx,Go.ChangeMaps.map_eraseIdx,g.kv]
  ·intro x V;rw[f]at V;exact g.born x ((List.eraseIdx_sublist _ _).subset V)
  ·rw[f];exact g.once.sublist ((List.eraseIdx_sublist _ _).map _)
  ·intro q m;exact g.wf q (zL.1 m).1
  ·have:=MapFrom.size_erase k j;have:=g.size;omega
  ·intro e
   rw[f]
   constructor
   ·intro h
    refine⟨(List.eraseIdx_sublist _ _).subset h,fun F=>?_⟩
    obtain⟨i,r,l⟩:=List.mem_eraseIdx_iff_getElem?.1 h
    obtain⟨q,m,Q,_⟩:=g.at l
    exact d i q m r (ok.inj _ _ (Q.symm.trans F))
   ·rintro⟨h,F⟩
    obtain⟨i,l⟩:=List.mem_iff_getElem?.1 h
    refine List.mem_eraseIdx_iff_getElem?.2 ⟨i,fun X=>?_,l⟩
    subst X
    rw[v]at l
    cases l
    exact F S
end
end Go.Proofs.YtndhpgciopcncaaGreatDoor
namespace Go.Proofs.YtndhpgciopcncaaGreatDoor
open Go.RowKit
structure Cf where
 s:Int
 le:Int
 la:Int
 wi:Int
 ke:Int
 qu:Int
 n:Nat
 F:Nat->Int
 W:Nat->Int
 K:Nat->Int
structure Nm where
 se:Int
 tm:Int
 val:Int
structure Sg where
 t:Int
 se:Int
 wn:Int
deriving DecidableEq
structure Cl where
 cnt:Int
 sum:Int
 mn:Int
 mx:Int
structure Tk where
 kind:Int
 s:Sg
 si:Int
 tc:Int
 rest:Int
 ep:Int
 num:Int
 slot:Int
 till:Int
structure RM where
 c:Cf
 now:Int
 nu:List Nm
 pub:List Sg
 gone:List Sg
 tk:List Tk
 epoch:Int
 picks:Int
def nmV(x:Nm):List z0:=[int i64 x.se,int i64 x.tm,int i32 x.val]
def sgV(x:Sg):List z0:=[int i64 x.t,int i64 x.se,int i64 x.wn]
def tkV(x:Tk):List z0:=[int i64 x.kind,int i64 x.s.t,int i64 x.s.se,int i64 x.s.wn,int i64 x.si,int i64 x.tc,int i64 x.rest,int i64 x.ep,int i64 x.num,int i64 x.slot,int i64 x.till]
section
variable {α:Type}
theorem qw{f:α->List z0}{k:Nat}(c:∀a,(f a).length=k):∀(l:List α) (i:Nat) (a:α) (j:Nat),l[i]?=U a->j<k->(l.flatMap f)[i*k+j]?=(f a)[j]?
 |[],i,a,j,h,_=>by simp at h
 |b::l,0,a,j,h,d=>by
  simp at h;subst h
  rw[List.flatMap_cons,List.getElem?_append_left (by rw[c];omega)];simp
 |b::l,i+1,a,j,h,d=>by
  have:=qw c l i a j (by simpa using h) d
  rw[List.flatMap_cons,List.getElem?_append_right (by rw[c,Nat.add_mul];omega),c,<-this]
  congr 1;rw[Nat.add_mul];omega
theorem XY{f:α->List z0}(c:∀a,∀v∈f a,v.oneCell'=true)(l:List α):∀v∈l.flatMap f,v.oneCell'=true:=fun v hv=>by
 obtain⟨a,_,b⟩:=List.mem_flatMap.1 hv
 exact c a v b
theorem VF(f:α->List z0)(l:List α)(a:α):(l++[a]).flatMap f=l.flatMap f++f a:=by simp
end
theorem zao(x:Nm):(nmV x).length=3:=rfl
theorem zaE(x:Sg):(sgV x).length=3:=rfl
theorem zaT(x:Tk):(tkV x).length=11:=rfl
theorem zeE(x:Nm):∀v∈nmV x,v.oneCell'=true:=fun v h=>by
 simp only[nmV,z2,List.not_mem_nil,or_false]at h
 rcases h with rfl|rfl|rfl<;>rfl
theorem zfp(x:Sg):∀v∈sgV x,v.oneCell'=true:=fun v h=>by
 simp only[sgV,z2,List.not_mem_nil,or_false]at h
 rcases h with rfl|rfl|rfl<;>rfl
theorem zfL(x:Tk):∀v∈tkV x,v.oneCell'=true:=fun v h=>by
 simp only[tkV,z2,List.not_mem_nil,or_false]at h
 rcases h with rfl|rfl|rfl|rfl|rfl|rfl|rfl|rfl|rfl|rfl|rfl<;>rfl
structure Cf.ok(c:Cf):Prop where
 n1:1<=c.n
 n4:c.n<=4
 wi1:1<=c.wi
 wi2:c.wi<=1000
 W:∀i,i<c.n->1<=c.W i/\c.W i<=1000
 F:∀i,i<c.n-> -1<=c.F i/\c.F i<c.n
 K:∀i,i<c.n->0<=c.K i/\c.K i<=1000
 ke:0<=c.ke/\c.ke<=1000
 la:0<=c.la/\c.la<=100
 qu:1<=c.qu/\c.qu<=400
 sl:1<=c.s/\c.s<=4
 le:1<=c.le/\c.le<=100
def Cf.wh(c:Cf)(t:Int):Int:=zY c.wi c.W t
theorem Cf.ok.wh{c:Cf}(h:c.ok){t:Int}(a: -1<=t)(b:t<c.n):1<=c.wh t/\c.wh t<=1000:=by
 unfold Cf.wh zY
 split
 ·exact⟨h.wi1,h.wi2⟩
 ·exact h.W _ (by omega)
def zt(c:Cf)(t:Int)(x:Nm):Sg:=⟨t,x.se,x.tm/c.wh t⟩
def jX(l:List Sg)(s:Sg):List Sg:=if s∈l then l else l++[s]
def xA(c:Cf)(t:Int)(nu:List Nm)(l:List Sg):List Sg:=nu.foldl (fun l x=>jX l (zt c t x)) l
def ye(c:Cf)(nu:List Nm)(k:Nat):List Sg:=(List.range k).foldl (fun l (j:Nat)=>xA c ((j:Int)-1) nu l) []
def zE(c:Cf)(nu:List Nm):List Sg:=ye c nu (c.n+1)
theorem vx(c:Cf)(nu:List Nm)(k:Nat):ye c nu (k+1)=xA c ((k:Int)-1) nu (ye c nu k):=by
 simp[ye,List.range_succ]
theorem Vd(c:Cf)(t:Int)(nu:List Nm)(l:List Sg)(i:Nat)(x:Nm)(h:nu[i]?=U x):xA c t (nu.take (i+1)) l=jX (xA c t (nu.take i) l) (zt c t x):=by
 obtain⟨a,b⟩:=List.getElem?_eq_some_iff.1 h
 rw[List.take_succ_eq_append_getElem a,b];simp[xA]
theorem zdL(l:List Sg)(s:Sg):(jX l s).length<=l.length+1:=by unfold jX;split<;>simp
theorem jg(c:Cf)(t:Int):∀(nu:List Nm) (l:List Sg),(xA c t nu l).length<=l.length+nu.length
 |[],l=>by simp[xA]
 |x::r,l=>by
  have:=jg c t r (jX l (zt c t x));have a:=zdL l (zt c t x)
  simp only[xA,List.foldl_cons,List.length_cons]at*;omega
theorem Xm(c:Cf)(nu:List Nm):∀k,(ye c nu k).length<=k*nu.length
 |0=>by simp[ye]
 |k+1=>by
  have:=Xm c nu k;have a:=jg c ((k:Int)-1) nu (ye c nu k)
  rw[vx,Nat.add_mul];omega
theorem zex{l:List Sg}{s x:Sg}:x∈jX l s↔x∈l\/x=s:=by
 unfold jX;split
 ·rename_i h;constructor
  ·exact .inl
  ·rintro(a|rfl)<;>assumption
 ·simp
theorem Xu(c:Cf)(t:Int)(s:Sg):∀(nu:List Nm) (l:List Sg),s∈xA c t nu l↔s∈l\/∃x∈nu,s=zt c t x
 |[],l=>by simp[xA]
 |x::r,l=>by
  have:=Xu c t s r (jX l (zt c t x))
  simp only[xA,List.foldl_cons]at this ⊢
  rw[this,zex];simp only[z2,exists_eq_or_imp]
  constructor
  ·rintro((h|h)|h)
   ·exact .inl h
   ·exact .inr (.inl h)
   ·exact .inr (.inr h)
  ·rintro(h|h|h)
   ·exact .inl (.inl h)
   ·exact .inl (.inr h)
   ·exact .inr h
theorem YW(c:Cf)(nu:List Nm)(s:Sg):∀k,s∈ye c nu k↔∃j,j<k/\∃x∈nu,s=zt c ((j:Int)-1) x
 |0=>by simp[ye]
 |k+1=>by
  rw[vx,Xu,YW c nu s k]
  constructor
  ·rintro(⟨j,a,h⟩|h)
   ·exact⟨j,by omega,h⟩
   ·exact⟨k,by omega,h⟩
  ·rintro⟨j,a,h⟩
   by_cases e:j=k
   ·subst e;exact .inr h
   ·exact .inl ⟨j,by omega,h⟩
theorem yv{c:Cf}{nu:List Nm}{s:Sg}:s∈zE c nu↔ -1<=s.t/\s.t<c.n/\∃x∈nu,s=zt c s.t x:=by
 unfold zE;rw[YW]
 constructor
 ·rintro⟨j,e,x,a,rfl⟩
  refine⟨?_,?_,x,a,rfl⟩<;>simp only[zt]<;>omega
 ·rintro⟨b,d,x,a,h⟩
  refine⟨(s.t+1).toNat,by omega,x,a,?_⟩
  have:(((s.t+1).toNat:Nat):Int)-1=s.t:=by omega
  rw[this];exact h
theorem JL{l:List Sg}{s:Sg}(h:l.Nodup):(jX l s).Nodup:=by
 unfold jX;split
 ·exact h
 ·rename_i hn;rw[List.nodup_append]
  exact⟨h,by simp,fun a d b c=>by simp at c;subst c;intro e;subst e;exact hn d⟩
theorem jT(c:Cf)(t:Int):∀(nu:List Nm) (l:List Sg),l.Nodup->(xA c t nu l).Nodup
 |[],l,h=>by simpa[xA]using h
 |x::r,l,h=>by
  have:=jT c t r (jX l (zt c t x)) (JL h)
  simpa only[xA,List.foldl_cons]using this
theorem XC(c:Cf)(nu:List Nm):∀k,(ye c nu k).Nodup
 |0=>by simp[ye]
 |k+1=>by rw[vx];exact jT c _ nu _ (XC c nu k)
theorem Xz(c:Cf)(nu:List Nm):(zE c nu).Nodup:=XC c nu _
def vQ(a:Cl)(v:Int):Cl:=⟨a.cnt+1,a.sum+v,if a.cnt=0\/v<a.mn then v else a.mn,if a.cnt=0\/a.mx<v then v else a.mx⟩
def qm(c:Cf)(s:Sg)(a:Cl)(x:Nm):Cl:=if zt c s.t x=s then vQ a x.val else a
def xe(c:Cf)(s:Sg)(nu:List Nm):Cl:=nu.foldl (qm c s) ⟨0,0,0,0⟩
theorem Qf(c:Cf)(s:Sg)(nu:List Nm)(i:Nat)(x:Nm)(h:nu[i]?=U x):xe c s (nu.take (i+1))=qm c s (xe c s (nu.take i)) x:=by
 obtain⟨a,b⟩:=List.getElem?_eq_some_iff.1 h
 rw[List.take_succ_eq_append_getElem a,b];simp[xe]
def ji(c:Cf)(nu:List Nm)(rc:List Sg)(s:Sg):Int:=if s∈rc then 0 else if s.t= -1 then(xe c s nu).cnt else 2
def kG(c:Cf)(nu:List Nm)(rc l:List Sg):Int:=l.foldl (fun n s=>n+ji c nu rc s) 0
def RM.used(m:RM):Int:=kG m.c m.nu m.gone (zE m.c m.nu)
theorem zaU(c:Cf)(nu:List Nm)(rc l:List Sg)(i:Nat)(s:Sg)(h:l[i]?=U s):kG c nu rc (l.take (i+1))=kG c nu rc (l.take i)+ji c nu rc s:=by
 obtain⟨a,b⟩:=List.getElem?_eq_some_iff.1 h
 rw[List.take_succ_eq_append_getElem a,b];simp[kG]
def Nm.ok(x:Nm):Prop:= -2147483648<=x.val/\x.val<=2147483647/\0<=x.tm/\x.tm<=100000/\0<=x.se/\x.se<4
theorem Zp(c:Cf)(s:Sg):∀(nu:List Nm) (a:Cl) (k:Nat),(∀x∈nu,x.ok)->(0<=a.cnt/\a.cnt<=k/\ -(2147483648*(k:Int))<=a.sum/\a.sum<=2147483648*(k:Int))->
  0<=(nu.foldl (qm c s) a).cnt/\(nu.foldl (qm c s) a).cnt<=k+nu.length/\ -(2147483648*((k:Int)+nu.length))<=(nu.foldl (qm c s) a).sum/\(nu.foldl (qm c s) a).sum<=2147483648*((k:Int)+nu.length)
 |[],a,k,_,h=>by simp;omega
 |x::r,a,k,b,h=>by
  have d:=b x (by simp)
  unfold Nm.ok at d
  have:=Zp c s r (qm c s a x) (k+1) (fun y e=>b y (by simp[e])) (by
   unfold qm;split
   ·simp only[vQ];omega
   ·omega)
  rw[List.foldl_cons,List.length_cons]
  omega
theorem yB{c:Cf}{s:Sg}{nu:List Nm}(h:∀x∈nu,x.ok):0<=(xe c s nu).cnt/\(xe c s nu).cnt<=nu.length/\ -(2147483648*(nu.length:Int))<=(xe c s nu).sum/\(xe c s nu).sum<=2147483648*(nu.length:Int):=by
 have:=Zp c s nu ⟨0,0,0,0⟩ 0 h (by simp)
 simpa[xe]using this
theorem ZS{c:Cf}{nu:List Nm}{rc:List Sg}(h:∀x∈nu,x.ok):∀(l:List Sg) (u:Int),0<=u->0<=l.foldl (fun n s=>n+ji c nu rc s) u/\l.foldl (fun n s=>n+ji c nu rc s) u<=u+l.length*(nu.length+2)
 |[],u,a=>by simp;exact a
 |s::r,u,a=>by
  have d:=yB (c:=c) (s:=s) h
  have b:0<=ji c nu rc s/\ji c nu rc s<=nu.length+2:=by
   unfold ji
   split
   ·omega
   ·split<;>omega
  have:=ZS (c:=c) (rc:=rc) h r (u+ji c nu rc s) (by omega)
  have e:((s::r).length:Int)*(nu.length+2)=r.length*(nu.length+2)+(nu.length+2):=by
   rw[List.length_cons];push_cast;rw[Int.add_mul];omega
  rw[List.foldl_cons,e];omega
theorem Jy{c:Cf}{nu:List Nm}{rc l:List Sg}(h:∀x∈nu,x.ok):0<=kG c nu rc l/\kG c nu rc l<=l.length*(nu.length+2):=by
 have:=ZS (c:=c) (rc:=rc) h l 0 (by omega)
 unfold kG;omega
def Yl{α:Type}(F:Fence)(n:Nat)(P:Program)(g:Nat)(lb:Array z0)(encs:α->Array z0)(Kp:O->O->Prop)(S d:List α->Prop)(N m:Nat)(w:O):Prop:=
 ∀(l:Nat) (J c:List α->O->Prop) (W:O),Below w.1.size w W->m<=W.1.size->OwnFrom W.1.size J->OwnFrom W.1.size c->
  (∀a x V,J a V->a.length<N->YieldAt F (n-1) P l (encs x) V fun e b=>(e=.returned (.bool true)/\J (a++[x]) b/\Kp V b)\/(e=.returned (.bool false)/\c (a++[x]) b/\Kp V b))->
  J [] W->CallsIn F n P g (#[.func (.yield l) #[] #[]]++lb) W fun e V=>(∃v,e=.returned v)/\((∃xs,S xs/\J xs V)\/∃a,d a/\c a V)
theorem K5{β:Type}{B:Nat}{J:β->O->Prop}(h:OwnFrom B J):AbidesFrom B J:=fun s W a row i f g=>
 h s W a row i f (fun r e=>by obtain⟨b,o,c,d⟩:=g r e;exact⟨b,o,c,Obj.not_cells_of_walk d⟩)
theorem Yl.of{α:Type}{F:Fence}{n:Nat}{P:Program}{g:Nat}{lb:Array z0}{encs:α->Array z0}{Kp:O->O->Prop}{S f:List α->Prop}{N m:Nat}{w:O}(h:SeqStopsK F n P g lb encs Kp S f N w):Yl F n P g lb encs Kp S f N m w:=
 fun l J i W o _ k c p j=>h l J i W o (K5 k) (K5 c) (fun d x V hv r=>(p d x V hv r).mono fun e s q=>q.imp id (fun⟨a,b,_⟩=>⟨a,b⟩)) j
theorem Yl.keeps{α:Type}{F:Fence}{n:Nat}{P:Program}{g:Nat}{lb:Array z0}{encs:α->Array z0}{Kp i:O->O->Prop}{S j:List α->Prop}{N m:Nat}{w:O}(h:Yl F n P g lb encs Kp S j N m w)(k:∀A B,i A B->Kp A B):Yl F n P g lb encs i S j N m w:=
 fun l J o W r v q d s p=>h l J o W r v q d (fun f x V hv u=>(s f x V hv u).mono fun e y t=>t.imp (fun⟨a,b,c⟩=>⟨a,b,k _ _ c⟩) (fun⟨a,b,c⟩=>⟨a,b,k _ _ c⟩)) p
theorem Yl.inRound{α:Type}{F:Fence}{n:Nat}{P:Program}{g:Nat}{lb:Array z0}{encs:α->Array z0}{Kp:O->O->Prop}{S a:List α->Prop}{N m:Nat}{w:O}(l:Nat)(h:Yl F n P g lb encs Kp S a N m w):Yl (F.inRound l) n P g lb encs Kp S a N m w:=h
def KQ{α:Type}(B:Nat)(Kp:O->O->Prop)(I:List α->O->Prop)(b:Code->List α->O->Prop)(xs:List α)(W:O)(e:Exit)(_:Act)(a:O):Prop:=
 KeepsFrom B W a/\Kp W a/\match e with
 | .normal=>I xs a
 | .ret=>b .ret xs a
 | .exit id=>b (.exit id) xs a
 | .goto t=>b (.goto t) xs a
 | .panic _=>False
 | .outgrown=>False
theorem jr{W a:O}{row:Option Nat}{B k:Nat}{o:Obj}(b:W.grownBy a row)(c:∀r,row=U r->B<=r)(d:k<B)(h:W.1[k]?=U o):a.1[k]?=U o:=
 (b.block k (zb h) (fun e=>by have:=c k e.symm;omega)).trans h
section
variable {α:Type} {F:Fence} {n:Nat} {P:Program} {ps:Array Tmp} {assign body:Code} {encs:α->Array z0} {Kp:O->O->Prop} {N:Nat}
theorem zfh(B l fn h:Nat)(tmps:Array z0)(hF:F.fn fn)(i:B<=l)(a7:∀x,(encs x).size=ps.size)(E:O->Prop)(hE:∀W u,E W->KeepsFrom B W u->E u)(w:∀W o,E W->E (W.putObj l o))
  (y:∀{X Y Z:O},Kp X Y->Kp Y Z->Kp X Z) (D:∀(W:O) (o Q:Obj),W.1[l]?=U o->o.isCells=false->o.isWalk=false->Kp W (W.putObj l Q))
  (I:List α->O->Prop) (C:Code->List α->O->Prop) (hI:OwnFrom B I) (a0:∀c,OwnFrom B (C c)) (R:α->Act->O->Prop) (T:∀x m,OwnFrom B (fun(_:Unit) W=>R x m W))
  (k:∀(a:List α) (x:α) (W:O) (K:Act->O->Prop),I a W->(∀m u,KeepsFrom B W u->Kp W u->I a u->R x m u->K m u)->
   assign.wpIn (F.inRound l) n P (Exit.then K (fun _ _ _=>False)) {tmps:=(ps.zip (encs x)).foldl (fun t (p,v)=>t.setIfInBounds p v) tmps,defers:=[]} W)
  (z:∀(a:List α) (x:α) (m:Act) (W:O),(∃r:Loop,W.1[l]?=U (.loop r)/\r.defers=h)->I a W->R x m W->a.length<N->body.wpIn (F.inRound l) n P (KQ B Kp I C (a++[x]) W) m W)
  (a:List α) (x:α) (W:O) (hi:I a W) (hl:W.1[l]?=U (.loop {state:=.ready,pending:=G,fn,tmps,params:=ps,assign,body,defers:=h})) (he:E W) (J:a.length<N):
  YieldAt F n P l (encs x) W fun e V=>(e=.returned (.bool true)/\(I (a++[x]) V/\V.1[l]?=U (.loop {state:=.ready,pending:=G,fn,tmps,params:=ps,assign,body,defers:=h})/\E V)/\Kp W V)\/
   (e=.returned (.bool false)/\(∃c,C c (a++[x]) V/\V.1[l]?=U (.loop {state:=.done,pending:=U c,fn,tmps,params:=ps,assign,body,defers:=h})/\E V)/\Kp W V):=by
 refine⟨fn,_,assign,body,run_yield (P:=P) (args:=encs x) hl (a7 x),roundIn_of_wpIn hF (k a x W _ hi fun m X H a6 a5 a1=>?_)⟩
 have j:=H.same l _ i hl rfl
 have a2:=hE _ _ he H
 refine⟨_,run_beginRound j rfl,wpIn_mono (z a x m _ ⟨_,World.putObj_heap_same (zb j),rfl⟩ (hI.putObj _ a5 i j rfl) ((T x m).putObj (s:=()) _ a1 i j rfl) J) ?_⟩
 have hb:=World.putObj_heap_same (o:=.loop {state:=.busy,pending:=G,fn,tmps,params:=ps,assign,body,defers:=h}) (zb j)
 have b:∀V,KeepsFrom B (X.putObj l (.loop {state:=.busy,pending:=G,fn,tmps,params:=ps,assign,body,defers:=h})) V->V.1[l]?=U (.loop {state:=.busy,pending:=G,fn,tmps,params:=ps,assign,body,defers:=h})/\E V:=
  fun V f=>⟨f.same l _ i hb rfl,hE _ _ (w _ _ a2) f⟩
 have g:∀c V,KeepsFrom B (X.putObj l (.loop {state:=.busy,pending:=G,fn,tmps,params:=ps,assign,body,defers:=h})) V->C c (a++[x]) V->
   C c (a++[x]) (V.putObj l (.loop {state:=.done,pending:=U c,fn,tmps,params:=ps,assign,body,defers:=h}))/\(V.putObj l (.loop {state:=.done,pending:=U c,fn,tmps,params:=ps,assign,body,defers:=h})).1[l]?=U (.loop {state:=.done,pending:=U c,fn,tmps,params:=ps,assign,body,defers:=h})/\E (V.putObj l (.loop {state:=.done,pending:=U c,fn,tmps,params:=ps,assign,body,defers:=h})):=fun c V f A=>by
  obtain⟨q,S⟩:=b V f
  exact⟨(a0 c).putObj _ A i q rfl,World.putObj_heap_same (zb q),w _ _ S⟩
 have M:∀V Q,Kp (X.putObj l (.loop {state:=.busy,pending:=G,fn,tmps,params:=ps,assign,body,defers:=h})) V->V.1[l]?=U (.loop {state:=.busy,pending:=G,fn,tmps,params:=ps,assign,body,defers:=h})->Kp W (V.putObj l Q):=fun V Q d q=>y a6 (y (y (D _ _ _ j rfl rfl) d) (D _ _ _ q rfl rfl))
 intro e a3 V L
 match e,L with
 | .normal,⟨f,d,a4⟩=>
  obtain⟨q,S⟩:=b V f
  exact⟨_,_,run_endRound (P:=P) G q,.inl ⟨rfl,⟨hI.putObj _ a4 i q rfl,World.putObj_heap_same (zb q),w _ _ S⟩,M V _ d q⟩⟩
 | .ret,⟨f,d,A⟩=>exact⟨_,_,run_endRound (P:=P) (U .ret) (b V f).1,.inr ⟨rfl,⟨.ret,g .ret V f A⟩,M V _ d (b V f).1⟩⟩
 | .exit id,⟨f,d,A⟩=>exact⟨_,_,run_endRound (P:=P) (U (.exit id)) (b V f).1,.inr ⟨rfl,⟨.exit id,g (.exit id) V f A⟩,M V _ d (b V f).1⟩⟩
 | .goto t,⟨f,d,A⟩=>exact⟨_,_,run_endRound (P:=P) (U (.goto t)) (b V f).1,.inr ⟨rfl,⟨.goto t,g (.goto t) V f A⟩,M V _ d (b V f).1⟩⟩
 | .panic ch,L=>exact L.2.2.elim
 | .outgrown,L=>exact L.2.2.elim
end
section
variable {α:Type} {F:Fence} {n:Nat} {P:Program} {g:Operand} {ps:Array Tmp} {assign body:Code} {Q:Exit->Act->O->Prop} {a:Act} {w:O}
theorem yM(a7:F.round=G)(h1:1<=n){gf:Nat}{lb:Array z0}(hg:a.eval g=.func (.func gf) #[] lb)(a1:F.fn gf)(eg:∀args w,(callFunc gf args).run P w=.ok (.enter gf args) w)
  {encs:α->Array z0} {Kp:O->O->Prop} {S Sp:List α->Prop} {N m:Nat} {w0:O} (R:Yl F (n-1) P gf lb encs Kp S Sp N m w0) (hm:m<=w.1.size+2)
  (a4:∀{X Y Z:O},Kp X Y->Kp Y Z->Kp X Z) (a3:∀(W:O) (o o':Obj),W.1[w.1.size+1]?=U o->o.isCells=false->o.isWalk=false->Kp W (W.putObj (w.1.size+1) o')) (H:Below w0.1.size w0 w) (a6:∀x,(encs x).size=ps.size)
  (I:List α->O->Prop) (C:Code->List α->O->Prop) (E:OwnFrom w.1.size I) (q:∀c,OwnFrom w.1.size (C c)) (h0:I [] w) (Ax:α->Act->O->Prop) (a0:∀x j,OwnFrom w.1.size (fun(_:Unit) W=>Ax x j W))
  (f:∀(l:Nat) (b:List α) (x:α) (W:O) (K:Act->O->Prop),I b W->(∀j B,KeepsFrom w.1.size W B->Kp W B->I b B->Ax x j B->K j B)->
   assign.wpIn (F.inRound l) (n-1-1) P (Exit.then K (fun _ _ _=>False)) {tmps:=(ps.zip (encs x)).foldl (fun t (p,v)=>t.setIfInBounds p v) a.tmps,defers:=[]} W)
  (u:∀(l:Nat) (b:List α) (x:α) (j:Act) (W:O),w.1.size<=l->(∃r,W.1[l]?=U (.loop r))->I b W->Ax x j W->b.length<N->body.wpIn (F.inRound l) (n-1-1) P (KQ w.1.size Kp I C (b++[x]) W) j W)
  (y:∀(D:Nat) (xs:List α) (W:O),w.1.size<=D->S xs->I xs W->W.1[D]?=U (.deferred (U []))->Q .normal {a with defers:={target:=.collected D,args:=#[]}::a.defers} W)
  (z:∀(D:Nat) (c:Code) (b:List α) (W:O),w.1.size<=D->Sp b->C c b W->W.1[D]?=U (.deferred (U []))->c.wpIn F n P Q {a with defers:={target:=.collected D,args:=#[]}::a.defers} W):
  (Code.rangeFunc g ps assign body).wpIn F n P Q a w:=by
 refine wpIn_rangeFunc fun fn a5=>?_
 rw[a7]
 have hz:((w.alloc (.deferred (U []))).alloc (.loop {state:=.ready,pending:=G,fn,tmps:=a.tmps,params:=ps,assign,body,defers:=w.1.size})).1.size=w.1.size+2:=by simp
 refine⟨w.1.size+1,[{target:=.collected w.1.size,args:=#[]}],((w.alloc (.deferred (U []))).alloc (.loop {state:=.ready,pending:=G,fn,tmps:=a.tmps,params:=ps,assign,body,defers:=w.1.size})),{target:=.fn (.func gf) lb,args:=#[.func (.yield (w.1.size+1)) #[] #[]]},((w.alloc (.deferred (U []))).alloc (.loop {state:=.ready,pending:=G,fn,tmps:=a.tmps,params:=ps,assign,body,defers:=w.1.size})),gf,#[.func (.yield (w.1.size+1)) #[] #[]]++lb,((w.alloc (.deferred (U []))).alloc (.loop {state:=.ready,pending:=G,fn,tmps:=a.tmps,params:=ps,assign,body,defers:=w.1.size})),run_enterLoop_outer fn a.tmps ps assign body,by simp only[resolve,hg];simp[go_sem],fun f' J=>by simp[Target.leads]at J;subst J;exact a1,by simp[invoke,go_sem,eg],fun _=>h1,?_⟩
 have hD:((w.alloc (.deferred (U []))).alloc (.loop {state:=.ready,pending:=G,fn,tmps:=a.tmps,params:=ps,assign,body,defers:=w.1.size})).1[w.1.size]?=U (.deferred (U [])):=(Below.heap_alloc _ _ _ (by simp)).trans (World.alloc_heap_new w _)
 have hL:((w.alloc (.deferred (U []))).alloc (.loop {state:=.ready,pending:=G,fn,tmps:=a.tmps,params:=ps,assign,body,defers:=w.1.size})).1[w.1.size+1]?=U (.loop {state:=.ready,pending:=G,fn,tmps:=a.tmps,params:=ps,assign,body,defers:=w.1.size}):=by
  have:=World.alloc_heap_new (w.alloc (.deferred (U []))) (.loop {state:=.ready,pending:=G,fn,tmps:=a.tmps,params:=ps,assign,body,defers:=w.1.size});rwa[World.size_alloc]at this
 have hB:Below w0.1.size w0 ((w.alloc (.deferred (U []))).alloc (.loop {state:=.ready,pending:=G,fn,tmps:=a.tmps,params:=ps,assign,body,defers:=w.1.size})):=H.trans ((((Below.refl _ w).alloc (z1 _) _).alloc (by simp) _).mono H.size)
 have a2:=E.alloc (.loop {state:=.ready,pending:=G,fn,tmps:=a.tmps,params:=ps,assign,body,defers:=w.1.size}) (E.alloc (.deferred (U [])) h0)
 generalize((w.alloc (.deferred (U []))).alloc (.loop {state:=.ready,pending:=G,fn,tmps:=a.tmps,params:=ps,assign,body,defers:=w.1.size}))=W1 at*
 refine(R (w.1.size+1)
  (fun b W=>I b W/\W.1[w.1.size+1]?=U (.loop {state:=.ready,pending:=G,fn,tmps:=a.tmps,params:=ps,assign,body,defers:=w.1.size})/\W.1[w.1.size]?=U (.deferred (U [])))
  (fun b W=>∃c,C c b W/\W.1[w.1.size+1]?=U (.loop {state:=.done,pending:=U c,fn,tmps:=a.tmps,params:=ps,assign,body,defers:=w.1.size})/\W.1[w.1.size]?=U (.deferred (U [])))
  W1 hB (by omega) (fun s X Y row M d i=>⟨E s X Y row M.1 d (fun r e=>⟨by have:=(i r e).1;omega,(i r e).2⟩),jr d (fun r e=>(i r e).1) (by omega) M.2.1,jr d (fun r e=>(i r e).1) (by omega) M.2.2⟩)
  (fun s X Y row M d i=>by
   obtain⟨c,T,A,k3⟩:=M
   exact⟨c,q c s X Y row T d (fun r e=>⟨by have:=(i r e).1;omega,(i r e).2⟩),jr d (fun r e=>(i r e).1) (by omega) A,jr d (fun r e=>(i r e).1) (by omega) k3⟩)
  (fun b x V hv L=>?_) ⟨a2,hL,hD⟩).mono ?_
 ·obtain⟨v1,v2,v3⟩:=hv
  exact zfh (P:=P) (Kp:=Kp) (n:=n-1-1) w.1.size (w.1.size+1) fn w.1.size a.tmps a5 (by omega) a6 (fun W=>W.1[w.1.size]?=U (.deferred (U []))) (fun W B he hk=>hk.same _ _ (z1 _) he rfl) (fun W o he=>(World.putObj_heap_other (by omega)).trans he)
   (fun h k=>a4 h k) (fun W o o'=>a3 W o o') I C E q Ax a0 (fun b x W K=>f _ b x W K) (fun b x j W ⟨r,i,_⟩=>u _ b x j W (by omega) ⟨r,i⟩) b x V v1 v2 v3 L
 ·rintro e V ⟨⟨v,rfl⟩,(⟨xs,hS,T,A,k3⟩|⟨b,hS,c,T,A,k3⟩)⟩
  ·exact⟨G,_,run_endLoop (P:=P) A (by simp),y _ xs _ (z1 _) hS (E.putObj _ T (by omega) A rfl) ((World.putObj_heap_other (by omega)).trans k3)⟩
  ·exact⟨U c,_,run_endLoop (P:=P) A (by simp),z _ c b _ (z1 _) hS ((q c).putObj _ T (by omega) A rfl) ((World.putObj_heap_other (by omega)).trans k3)⟩
theorem zhc{l₀:Nat}{r₀:Loop}(a8:F.round=U l₀)(a6:w.1[l₀]?=U (.loop r₀))(h1:1<=n){gf:Nat}{lb:Array z0}(hg:a.eval g=.func (.func gf) #[] lb)(a1:F.fn gf)(eg:∀args w,(callFunc gf args).run P w=.ok (.enter gf args) w)
  {encs:α->Array z0} {Kp:O->O->Prop} {S Sp:List α->Prop} {N m:Nat} {M:O} (L:Yl F (n-1) P gf lb encs Kp S Sp N m M) (hm:m<=w.1.size+1)
  (a4:∀{X Y Z:O},Kp X Y->Kp Y Z->Kp X Z) (a3:∀(W:O) (o o':Obj),W.1[w.1.size]?=U o->o.isCells=false->o.isWalk=false->Kp W (W.putObj w.1.size o')) (E:Below M.1.size M w) (a7:∀x,(encs x).size=ps.size)
  (I:List α->O->Prop) (C:Code->List α->O->Prop) (T:OwnFrom w.1.size I) (y:∀c,OwnFrom w.1.size (C c)) (h0:I [] w) (R:α->Act->O->Prop) (a0:∀x j,OwnFrom w.1.size (fun(_:Unit) W=>R x j W))
  (d:∀(l:Nat) (b:List α) (x:α) (W:O) (K:Act->O->Prop),I b W->(∀j D,KeepsFrom w.1.size W D->Kp W D->I b D->R x j D->K j D)->
   assign.wpIn (F.inRound l) (n-1-1) P (Exit.then K (fun _ _ _=>False)) {tmps:=(ps.zip (encs x)).foldl (fun t (p,v)=>t.setIfInBounds p v) a.tmps,defers:=[]} W)
  (z:∀(l:Nat) (b:List α) (x:α) (j:Act) (W:O),w.1.size<=l->(∃r,W.1[l]?=U (.loop r))->I b W->R x j W->b.length<N->body.wpIn (F.inRound l) (n-1-1) P (KQ w.1.size Kp I C (b++[x]) W) j W)
  (A:∀(xs:List α) (W:O),S xs->I xs W->Q .normal a W)
  (B:∀(c:Code) (b:List α) (W:O),Sp b->C c b W->c.wpIn F n P Q a W):
  (Code.rangeFunc g ps assign body).wpIn F n P Q a w:=by
 refine wpIn_rangeFunc fun fn a5=>?_
 rw[a8]
 have hz:(w.alloc (.loop {state:=.ready,pending:=G,fn,tmps:=a.tmps,params:=ps,assign,body,defers:=r₀.defers})).1.size=w.1.size+1:=by simp
 refine⟨w.1.size,[],(w.alloc (.loop {state:=.ready,pending:=G,fn,tmps:=a.tmps,params:=ps,assign,body,defers:=r₀.defers})),{target:=.fn (.func gf) lb,args:=#[.func (.yield w.1.size) #[] #[]]},(w.alloc (.loop {state:=.ready,pending:=G,fn,tmps:=a.tmps,params:=ps,assign,body,defers:=r₀.defers})),gf,#[.func (.yield w.1.size) #[] #[]]++lb,(w.alloc (.loop {state:=.ready,pending:=G,fn,tmps:=a.tmps,params:=ps,assign,body,defers:=r₀.defers})),run_enterLoop_inner a6 fn a.tmps ps assign body,by simp only[resolve,hg];simp[go_sem],fun f' H=>by simp[Target.leads]at H;subst H;exact a1,by simp[invoke,go_sem,eg],fun _=>h1,?_⟩
 have hL:(w.alloc (.loop {state:=.ready,pending:=G,fn,tmps:=a.tmps,params:=ps,assign,body,defers:=r₀.defers})).1[w.1.size]?=U (.loop {state:=.ready,pending:=G,fn,tmps:=a.tmps,params:=ps,assign,body,defers:=r₀.defers}):=World.alloc_heap_new w _
 have hB:Below M.1.size M (w.alloc (.loop {state:=.ready,pending:=G,fn,tmps:=a.tmps,params:=ps,assign,body,defers:=r₀.defers})):=E.trans (((Below.refl _ w).alloc (z1 _) _).mono E.size)
 have a2:=T.alloc (.loop {state:=.ready,pending:=G,fn,tmps:=a.tmps,params:=ps,assign,body,defers:=r₀.defers}) h0
 generalize(w.alloc (.loop {state:=.ready,pending:=G,fn,tmps:=a.tmps,params:=ps,assign,body,defers:=r₀.defers}))=W1 at*
 refine(L w.1.size
  (fun b W=>I b W/\W.1[w.1.size]?=U (.loop {state:=.ready,pending:=G,fn,tmps:=a.tmps,params:=ps,assign,body,defers:=r₀.defers}))
  (fun b W=>∃c,C c b W/\W.1[w.1.size]?=U (.loop {state:=.done,pending:=U c,fn,tmps:=a.tmps,params:=ps,assign,body,defers:=r₀.defers}))
  W1 hB (by omega) (fun s X Y row hs f q=>⟨T s X Y row hs.1 f (fun r e=>⟨by have:=(q r e).1;omega,(q r e).2⟩),jr f (fun r e=>(q r e).1) (by omega) hs.2⟩)
  (fun s X Y row hs f q=>by
   obtain⟨c,u,i⟩:=hs
   exact⟨c,y c s X Y row u f (fun r e=>⟨by have:=(q r e).1;omega,(q r e).2⟩),jr f (fun r e=>(q r e).1) (by omega) i⟩)
  (fun b x V hv J=>?_) ⟨a2,hL⟩).mono ?_
 ·obtain⟨v1,v2⟩:=hv
  refine(zfh (P:=P) (Kp:=Kp) (n:=n-1-1) w.1.size w.1.size fn r₀.defers a.tmps a5 (z1 _) a7 (fun _=>True) (fun _ _ _ _=>trivial) (fun _ _ _=>trivial)
   (fun h k=>a4 h k) (fun W o o'=>a3 W o o') I C T y R a0 (fun b x W K=>d _ b x W K) (fun b x j W ⟨r,q,_⟩=>z _ b x j W (z1 _) ⟨r,q⟩) b x V v1 v2 trivial J).mono ?_
  rintro e V' (⟨e1,⟨u,i,_⟩,k3⟩|⟨e1,⟨c,u,i,_⟩,k3⟩)
  ·exact .inl ⟨e1,⟨u,i⟩,k3⟩
  ·exact .inr ⟨e1,⟨c,u,i⟩,k3⟩
 ·rintro e V ⟨⟨v,rfl⟩,(⟨xs,hS,u,i⟩|⟨b,hS,c,u,i⟩)⟩
  ·exact⟨G,_,run_endLoop (P:=P) i (by simp),A xs _ hS (T.putObj _ u (z1 _) i rfl)⟩
  ·exact⟨U c,_,run_endLoop (P:=P) i (by simp),B c b _ hS ((y c).putObj _ u (z1 _) i rfl)⟩
end
theorem jE{F:Fence}(f:F.depth=G){m m':Nat}{P:Program}{l:Nat}{args:Array z0}{W:O}{R:Ending->O->Prop}(h:YieldAt F m P l args W R):YieldAt F m' P l args W R:=by
 obtain⟨fn,tmps,assign,body,g,a,b⟩:=h
 exact⟨fn,tmps,assign,body,g,a,fun c cs _=>b c cs (fun d e=>by rw[f]at e;cases e)⟩
def zkD(o:Obj):Prop:=∃c a,o=.cells c 148 a
theorem ziT{o:Obj}(h:o.isCells=false):¬zkD o:=fun⟨_,_,e⟩=>by rw[e]at h;cases h
structure KX(ex:Nat->Prop)(n m:Nat)(A B:O):Prop where
 kept:zk (fun k=>ex k\/n<=k) A B
 walk:∀k o,¬ex k->A.1[k]?=U o->o.isWalk=true->B.1[k]?=U o
 high:∀k o,m<=k->¬zkD o->A.1[k]?=U o->B.1[k]?=U o
section
variable {ex:Nat->Prop} {n m:Nat}
theorem KX.refl(ex:Nat->Prop)(n m:Nat)(A:O):KX ex n m A A:=⟨zk.refl _ _,fun _ _ _ h _=>h,fun _ _ _ _ h=>h⟩
theorem KX.trans{A B C:O}(h:KX ex n m A B)(k:KX ex n m B C):KX ex n m A C:=⟨h.kept.trans k.kept (fun _ _ h=>h),fun i o a b c=>k.walk i o a (h.walk i o a b c) c,fun i o a hn b=>k.high i o a hn (h.high i o a hn b)⟩
theorem KX.putObj{W:O}{l:Nat}{o:Obj}(c:Obj)(d:n<=l)(i:l<m)(h:W.1[l]?=U o)(f:o.isWalk=false):KX ex n m W (W.putObj l c):=
 ⟨(zk.refl _ _).grown (grownBy_putObj' W l c) (fun k e _=>by cases e;exact .inr d),fun k p g a b=>by
  by_cases e:k=l
  ·subst e;rw[h]at a;cases a;rw[f]at b;cases b
  ·exact(World.putObj_heap_other e).trans a,fun k p g _ a=>(World.putObj_heap_other (show k≠l by omega)).trans a⟩
theorem KX.of_below{A B:O}(h:Below A.1.size A B):KX ex n m A B:=⟨zk.of_below h,fun k o _ a _=>(h.block k (zb a)).trans a,fun k o _ _ a=>(h.block k (zb a)).trans a⟩
theorem KX.setCell{W:O}{g i:Nat}{v:z0}(hn:n<=g)(c:g<m):KX ex n m W (W.setCell ⟨g,i,G⟩ v):=
 ⟨(zk.refl _ _).setCell (p:=⟨g,i,G⟩) (fun _=> .inr hn) v,fun k o _ a b=>(KeepsOthers.setCell W ⟨g,i,G⟩ v).same k o a (Obj.not_cells_of_walk b),fun k o d _ a=>(Below.heap_setCell _ _ _ _ (show k≠g by omega)).trans a⟩
theorem KX.wider{m':Nat}{A B:O}(h:KX ex n m A B)(a:m<=m'):KX ex n m' A B:=⟨h.kept,h.walk,fun k o b=>h.high k o (Nat.le_trans a b)⟩
theorem KX.own{q:Nat}{w:O}{β:Type}(l:w.1.size<=q):OwnFrom q (fun(_:β) W=>KX ex n m w W):=fun s X Y row d c i=>
 have b:∀k o,w.1[k]?=U o->X.1[k]?=U o->Y.1[k]?=U o:=fun k o a h=>(c.block k (zb h) (fun e=>by have:=(i k e.symm).1;have:=zb a;omega)).trans h
 ⟨d.kept.trans (g:=fun k=>q<=k) ⟨c.os,c.tape,c.output,c.size,fun k a hn=>c.block k a (fun e=>hn (i k e.symm).1)⟩ (fun k a e=>by omega),fun k o f a j=>b k o a (d.walk k o f a j),fun k o f hn a=>b k o a (d.high k o f hn a)⟩
theorem KX.grown{W h:O}{row:Option Nat}(b:W.grownBy h row)(g:∀r,row=U r->(ex r\/n<=r)/\∃c d,W.1[r]?=U (.cells c 148 d)):KX ex n m W h:=
 ⟨⟨b.os,b.tape,b.output,b.size,fun k a hn=>b.block k a (fun e=>hn (g k e.symm).1)⟩,
  fun k o _ a i=>(b.block k (zb a) (fun e=>by obtain⟨-,c,d,f⟩:=g k e.symm;rw[f]at a;cases a;cases i)).trans a,
  fun k o _ hn a=>(b.block k (zb a) (fun e=>by obtain⟨-,c,d,f⟩:=g k e.symm;rw[f]at a;cases a;exact hn ⟨_,_,rfl⟩)).trans a⟩
theorem KX.from{A B:O}(h:KX ex n m A B){q:Nat}(d:m<=q):KeepsFrom q A B:=⟨h.kept.size,fun k o c a b=>h.high k o (Nat.le_trans d c) (ziT b) a⟩
theorem KX.low{A B:O}(h:KX ex n m A B){k:Nat}(c:k<n)(b:¬ex k)(a:k<A.1.size):B.1[k]?=A.1[k]?:=h.kept.block k a (fun e=>e.elim b (by omega))
end
def jW{α:Type}(ex:Nat->Prop)(n:Nat)(P:Program)(g:Nat)(lb:Array z0)(encs:α->Array z0)(S:List α->Prop)(N:Nat)(w:O):Prop:=
 ∀m,w.1.size<=m->Yl Fence.wide 6 P g lb encs (KX ex n m) S (fun _=>True) N m w
section
variable {P:Program} {ops:Array Oper} {md:Region.Mode} {w:O} {n:Nat} {l:Nat}
theorem Ye{o:Oper}{a:Act}{K:Act->Prop}(h:o.still P a w K):∀c,o.op≠ .defer c:=fun c e=>by
 unfold Oper.still execOp at h
 rw[e]at h
 simp only[Oper.stillUpon]at h
 revert h
 generalize b:(resolve a.eval c o.type).run P w=r
 cases r with
 |ok d w'=>simp[b]
 |halt x w'=>simp[b]
theorem Vn{o:Oper}{a:Act}{K:Act->Prop}{d:Act->O->Prop}{Q':Exit->Act->O->Prop}(h:∀a,K a->d a w)(b:o.still P a w K):o.wpIn (Fence.wide.inRound l) n P a w d Q':=by
 have c:=Ye b
 unfold Oper.still at b
 unfold Oper.wpIn
 refine⟨fun _ _=>trivial,?_⟩
 rw[Oper.semAt_eq _ _ _ c]
 generalize(execOp a.eval o).run P w=r at*
 cases r with
 |ok k w'=>
  cases k<;>simp only[Oper.stillUpon]at b<;>simp only[Oper.uponIn]
  case enter f args=>
   obtain⟨rfl,v,i,hn⟩:=b
   exact⟨fun e=>by simp[Fence.inRound,Fence.wide]at e,(CallsIn.inRound l (callsIn_wide.2 i)).mono fun e p ⟨j,m⟩=>by subst j;subst m;exact h _ hn⟩
  all_goals(obtain⟨rfl,g⟩:=b;exact h _ g)
 |halt x w'=>simp only[Oper.stillUpon]at b
theorem JD{i:Nat}{a:Act}{K:Act->Prop}{c:Act->O->Prop}{Q':Exit->Act->O->Prop}(h:∀a,K a->c a w)(b:stOp P ops w i K a):wpOpIn (Fence.wide.inRound l) n P ops Q' i c a w:=by
 unfold stOp at b
 unfold wpOpIn
 split
 ·rename_i ho;simp only[ho]at b;exact h _ b
 ·rename_i o ho
  simp only[ho]at b
  split
  ·rename_i hw;simp only[hw,if_true]at b;exact Vn h b
  ·rename_i hw;simp only[hw]at b;exact⟨fun _ _=>trivial,h _ b⟩
theorem Zn{k g:Nat}{L:Array Bool->Act->Prop}{Q':Exit->Act->O->Prop}(c:∀b a,L b a->wpAnyIn (Fence.wide.inRound l) n P md ops Q' g b a w):
  ∀(f:Nat) (b:Array Bool) (a:Act),wpAnyL P md ops w k L f b a->wpAnyIn (Fence.wide.inRound l) n P md ops Q' (f+g) b a w
 |0,b,a,h=>by rw[Nat.zero_add];exact c _ _ h
 |f+1,b,a,h=>by
  rw[show f+1+g=(f+g)+1 by omega]
  exact⟨fun j=>absurd j h.1,fun i m=>JD (fun d e=>Zn c f _ d e) (h.2 i m).2⟩
theorem Xr{F:Fence}{Q':Exit->Act->O->Prop}:∀(c:List Oper) (k:Nat) (b:Array Bool) (a:Act) (w:O),(∀j,c[j]?=ops[k+j]?)->
  Region.seqB md ops c.length k b=true->wpListIn F n P ops Q' c a w->wpAnyIn F n P md ops Q' c.length b a w
 |[],_,_,_,_,_,d,h=>⟨by simpa[Region.seqB]using d,h⟩
 |o::c,k,b,a,w,l,d,h=>by
  have q:ops[k]?=U o:=by simpa using(l 0).symm
  simp only[List.length_cons,Region.seqB,Bool.and_eq_true,decide_eq_true_eq]at d
  refine⟨fun f=>(by rw[d.1]at f;cases f),fun i g=>?_⟩
  rw[d.1]at g
  have e:i=k:=by simpa using g
  subst e
  have r:wpOpIn F n P ops Q' i (wpListIn F n P ops Q' c) a w:=by unfold wpOpIn;simp only[q];exact h
  exact wpOpIn_mono (fun m w' p=>Xr c (i+1) _ m w' (fun j=>by have:=l (j+1);simpa[Nat.add_assoc,Nat.add_comm 1 j]using this) d.2 p) r
theorem jR{id:Nat}{Q:Exit->Act->O->Prop}{a:Act}{w:O}{b:List Oper}(k:Nat)(x:P.follows .mixedOrders=true)(q:Region.lexTailB .any b.toArray k=true)
  (h:wpStill P b.toArray w.drew (fun o=>wpListIn (Fence.wide.inRound l) n P b.toArray Q (b.drop k) o w.drew) (b.take k) a):(Code.region id b.toArray true).wpIn (Fence.wide.inRound l) n P Q a w:=by
 simp only[Region.lexTailB,Bool.and_eq_true,decide_eq_true_eq]at q
 obtain⟨⟨⟨⟨i,hn⟩,z⟩,v⟩,f⟩:=q
 have y:k<b.length:=by simpa using hn
 have c:(b.take k).length=k:=by simp;omega
 have e:(b.drop k).length=b.toArray.size-k:=by simp
 have m:HeadInv .any b.toArray k (Array.replicate b.toArray.size false):=
  ⟨by simp,fun j B _ u=>(by rw[getD_replicate_false]at u;cases u),fun t _ A=>getD_in (by simpa using A) (getD_replicate_false _ _)⟩
 have H:=wpAnyL_lex (md:=.any) (g:=b.toArray.size-k) i z v hn (b.take k) 0 _ a (fun j s=>by
  have p:j<k:=by rw[c]at s;exact s
  simp[p]) (by simpa using c) m (by rw[c];exact f) h
 refine wpIn_region_any x ?_
 have:=Zn (l:=l) (n:=n) (Q':=Q) (g:=b.toArray.size-k) (fun d o r=>by
  have:=Xr (F:=Fence.wide.inRound l) (n:=n) (md:=.any) (Q':=Q) (b.drop k) k d o w.drew (fun j=>by simp[List.getElem?_drop]) (by rw[e];exact r.1) r.2
  rwa[e]at this) _ _ _ H
 rw[c,show k+(b.toArray.size-k)=b.toArray.size by omega]at this
 exact this
theorem Y7{id:Nat}{Q:Exit->Act->O->Prop}{a:Act}{w:O}{b:List Oper}(k:Nat)(e:P.follows .mixedOrders=true)(d:Region.lexTailB .any b.toArray k=true)
  (h:wpStill P b.toArray w.drew (fun c=>wpList P b.toArray Q (b.drop k) c w.drew) (b.take k) a):(Code.region id b.toArray true).wp P Q a w:=wp_region_still_tail k e d h
end
end Go.Proofs.YtndhpgciopcncaaGreatDoor
