import Derived.Test.YtndhpgciopcncaaGreatDoorPLater
import Derived.Maps.Keyed
import Derived.Maps.RangeRun
import Derived.RangeFuncOwn
import Derived.RangeFuncNested
import Derived.RangeFuncBound
import Derived.RangeFuncCalls
import Derived.RangeFuncLeaves
import Derived.StillTail
import Derived.StillTactics
import Derived.OrdersIn
import Derived.TacticsIn
open Go renaming World → G
open Option renaming some → z0
open Option renaming none → z1
open Go renaming Value → z2
open Nat renaming le_refl → z3
set_option linter.unusedVariables false
namespace Go.Proofs.YtndhpgciopcncaaGreatDoor
open Go.RowKit Go.Maps
open Go.ChangeMaps (setBlock modify_eq_set)
structure MK(α β:Type) where
 P:Program
 T:TypeId
 K:TypeId
 E:TypeId
 ke:α->z2
 ve:β->z2
 wf:α->Prop
 z:z2
structure MK.Ok{α β:Type}(M:MK α β):Prop where
 law:Keyed M.P M.K
 und:M.P.underlying M.T=z0 (.map M.K M.E)
 key:∀a,M.wf a->∃kl,keyOf M.P M.K (M.ke a)=z0 kl
 inj:∀a b,M.ke a=M.ke b->a=b
 zero:∀w,(zeroValue M.E).run M.P w=.ok M.z w
section
variable {α β:Type}
def zj(L:List (α×β)):List α:=L.map (·.1)
structure vK(M:MK α β)(es:Array MapEntry)(clock:Nat)(L:List (α×β)):Prop where
 kv:es.toList.map (fun e=>(e.key,e.val))=L.map (fun p=>(M.ke p.1,M.ve p.2))
 born:∀e∈es.toList,e.born<clock
 once:(es.toList.map (·.born)).Nodup
 wf:∀p∈L,M.wf p.1
 nodup:(zj L).Nodup
 size:es.size<=maxLen
def xe(M:MK α β)(w:G)(b:Nat)(L:List (α×β)):Prop:=∃c a,w.1[b]?=z0 (.map c a)/\vK M c a L
variable {M:MK α β}
theorem xe.lt{w:G}{b:Nat}{L:List (α×β)}(h:xe M w b L):b<w.1.size:=by
 obtain⟨d,a,c,_⟩:=h;exact zd c
theorem xe.kept{f:Nat->Prop}{w w':G}{b:Nat}{L:List (α×β)}(h:xe M w b L)(g:zh f w w')(hn:¬f b):xe M w' b L:=by
 obtain⟨c,a,d,e⟩:=h;exact⟨c,a,g.heap d hn,e⟩
theorem xe.later{w w':G}{b:Nat}{L:List (α×β)}(h:xe M w b L)(a:Below w.1.size w w'):xe M w' b L:=
 h.kept (f:=fun _=>False) (zh.of_below a) (fun h=>h)
theorem xe.wf{w:G}{b:Nat}{L:List (α×β)}(h:xe M w b L):∀p∈L,M.wf p.1:=by obtain⟨d,a,e,c⟩:=h;exact c.wf
theorem xe.nodup{w:G}{b:Nat}{L:List (α×β)}(h:xe M w b L):(zj L).Nodup:=by obtain⟨d,a,e,c⟩:=h;exact c.nodup
theorem xe.made(w:G):xe M (w.alloc (.map #[] 0)) w.1.size []:=⟨#[],0,World.alloc_heap_new w _,⟨rfl,by simp,by simp,by simp,by simp[zj],by simp⟩⟩
theorem xe.same{w w':G}{b:Nat}{L:List (α×β)}(h:xe M w b L)(e:w'.1[b]?=w.1[b]?):xe M w' b L:=by
 obtain⟨c,a,d,f⟩:=h;exact⟨c,a,e.trans d,f⟩
theorem vK.keys(ok:M.Ok){c:Array MapEntry}{a:Nat}{L:List (α×β)}(h:vK M c a L):∀e∈c.toList,∃l,keyOf M.P M.K e.key=z0 l:=fun e d=>by
 have f:(e.key,e.val)∈L.map (fun p=>(M.ke p.1,M.ve p.2)):=h.kv▸List.mem_map.2 ⟨e,d,rfl⟩
 obtain⟨p,g,b⟩:=List.mem_map.1 f
 injection b with b i
 rw[<-b];exact ok.key _ (h.wf p g)
theorem vK.at{c:Array MapEntry}{a:Nat}{L:List (α×β)}(h:vK M c a L){j:Nat}{e:MapEntry}(f:c.toList[j]?=z0 e):∃p,L[j]?=z0 p/\e.key=M.ke p.1/\e.val=M.ve p.2:=by
 have b:(c.toList.map (fun e=>(e.key,e.val)))[j]?=z0 (e.key,e.val):=by simp[f]
 rw[h.kv,List.getElem?_map]at b
 cases d:L[j]? with
 |none=>simp[d]at b
 |some p=>
  rw[d]at b
  simp at b
  exact⟨p,rfl,b.1.symm,b.2.symm⟩
theorem vK.absent{b:Array MapEntry}{a:Nat}{L:List (α×β)}(h:vK M b a L){s:α}(f:∀e∈b.toList,e.key≠M.ke s):s∉zj L:=fun g=>by
 obtain⟨p,i,e⟩:=List.mem_map.1 (show s∈L.map (·.1)from g)
 have c:(M.ke p.1,M.ve p.2)∈b.toList.map (fun e=>(e.key,e.val)):=h.kv▸List.mem_map.2 ⟨p,i,rfl⟩
 obtain⟨x,j,ex⟩:=List.mem_map.1 c
 injection ex with d k
 exact f x j (by rw[d,e])
theorem vK.count{b:Array MapEntry}{a:Nat}{L:List (α×β)}(h:vK M b a L):b.size=L.length:=by
 have:=congrArg List.length h.kv;simpa using this
theorem zlM(ok:M.Ok){w:G}{b:Nat}{L:List (α×β)}(h:xe M w b L)(e:TypeId):(Builtin.len_ #[M.T] e #[.map (z0 b)]).run M.P w=.ok (I L.length) w:=by
 obtain⟨f,a,c,d⟩:=h
 have:=d.count
 simp[Builtin.len_,run_underlying ok.und,MapKept.run_getObj_map c,goInt,Result.andThen,this]
end
section
variable {α β:Type} [DecidableEq α]
def zD(L:List (α×β))(a:α):Option β:=(L.find? (fun p=>decide (p.1=a))).map (·.2)
def xZ(L:List (α×β))(a:α)(v:β):List (α×β):=if a∈zj L then L.map (fun p=>if p.1=a then(a,v)else p)else L++[(a,v)]
def xa(L:List (α×β))(a:α):List (α×β):=L.filter (fun p=>decide (p.1≠a))
theorem xr{L:List (α×β)}{a:α}:zD L a=z1↔a∉zj L:=by
 unfold zD zj
 rw[Option.map_eq_none_iff,List.find?_eq_none]
 constructor
 ·intro h c
  obtain⟨p,b,e⟩:=List.mem_map.1 c
  exact h p b (by simpa using e)
 ·intro h p b e
  exact h (List.mem_map.2 ⟨p,b,by simpa using e⟩)
theorem zB{L:List (α×β)}{a:α}{v:β}(h:zD L a=z0 v):(a,v)∈L:=by
 unfold zD at h
 obtain⟨p,b,e⟩:=Option.map_eq_some_iff.1 h
 have c:=List.mem_of_find?_eq_some b
 have d:=List.find?_some b
 have f:p.1=a:=by simpa using d
 subst f;subst e;exact c
theorem xp{L:List (α×β)}(hn:(zj L).Nodup){a:α}{v:β}(h:(a,v)∈L):zD L a=z0 v:=by
 cases g:zD L a with
 |none=>exact absurd (List.mem_map.2 ⟨_,h,rfl⟩) (xr.1 g)
 |some u=>
  have m:=zB g
  have d:L.Pairwise (fun a b=>a.1≠b.1):=List.pairwise_map.1 hn
  obtain⟨i,k,f⟩:=List.getElem_of_mem m
  obtain⟨j,l,e⟩:=List.getElem_of_mem h
  rcases Nat.lt_trichotomy i j with c|c|c
  ·have:=List.pairwise_iff_getElem.1 d i j k l c;rw[f,e]at this;exact absurd rfl this
  ·subst c;rw[f]at e;cases e;rfl
  ·have:=List.pairwise_iff_getElem.1 d j i l k c;rw[f,e]at this;exact absurd rfl this
theorem XN{L:List (α×β)}(hn:(zj L).Nodup){a:α}{v:β}:zD L a=z0 v↔(a,v)∈L:=⟨zB,xp hn⟩
theorem zY{L:List (α×β)}{a:α}{v:β}{k:α}:k∈zj (xZ L a v)↔k∈zj L\/k=a:=by
 unfold xZ
 split
 next h=>
  have e:zj (L.map (fun p=>if p.1=a then(a,v)else p))=zj L:=by
   unfold zj;rw[List.map_map]
   apply List.map_congr_left
   intro p _
   by_cases c:p.1=a<;>simp[c]
  rw[e]
  exact⟨.inl,fun b=>b.elim id (fun e=>e▸h)⟩
 next h=>simp[zj]
theorem zig{L:List (α×β)}{a:α}{v:β}:zj (xZ L a v)=if a∈zj L then zj L else zj L++[a]:=by
 unfold xZ
 split
 next h=>
  unfold zj;rw[List.map_map]
  apply List.map_congr_left
  intro p _
  by_cases b:p.1=a<;>simp[b]
 next h=>simp[zj]
theorem qc{L:List (α×β)}{a:α}{v:β}(h:(zj L).Nodup):(zj (xZ L a v)).Nodup:=by
 rw[zig]
 split
 next=>exact h
 next hn=>
  rw[List.nodup_append]
  refine⟨h,by simp,fun x b y c e=>?_⟩
  simp at c
  rw[c]at e;rw[e]at b;exact hn b
theorem qF{L:List (α×β)}{a:α}{v:β}{p:α×β}(h:p∈xZ L a v):p=(a,v)\/(p∈L/\p.1≠a):=by
 unfold xZ at h
 split at h
 next hin=>
  obtain⟨q,c,e⟩:=List.mem_map.1 h
  by_cases b:q.1=a
  ·rw[if_pos b]at e;exact .inl e.symm
  ·rw[if_neg b]at e;subst e;exact .inr ⟨c,b⟩
 next hn=>
  rcases List.mem_append.1 h with h|h
  ·exact .inr ⟨h,fun e=>hn (List.mem_map.2 ⟨p,h,e⟩)⟩
  ·simp at h;exact .inl h
theorem kJ{L:List (α×β)}(hn:(zj L).Nodup)(a:α)(v:β)(k:α):zD (xZ L a v) k=if k=a then z0 v else zD L k:=by
 have c:=qc (a:=a) (v:=v) hn
 split
 next h=>
  subst h
  refine xp c ?_
  unfold xZ
  split
  next hin=>
   obtain⟨q,f,e⟩:=List.mem_map.1 hin
   exact List.mem_map.2 ⟨q,f,by rw[if_pos e]⟩
  next=>simp
 next h=>
  cases d:zD L k with
  |none=>exact xr.2 (fun b=>by
   rcases zY.1 b with b|b
   ·exact xr.1 d b
   ·exact h b)
  |some u=>
   refine xp c ?_
   have b:=zB d
   unfold xZ
   split
   next=>exact List.mem_map.2 ⟨_,b,by rw[if_neg h]⟩
   next=>exact List.mem_append_left _ b
theorem zT{L:List (α×β)}{a:α}{p:α×β}:p∈xa L a↔p∈L/\p.1≠a:=by unfold xa;simp
theorem XV{L:List (α×β)}{a:α}:zj (xa L a)=(zj L).filter (fun k=>decide (k≠a)):=by
 unfold zj xa;rw[List.filter_map];rfl
theorem xU{L:List (α×β)}{a:α}(h:(zj L).Nodup):(zj (xa L a)).Nodup:=by rw[XV];exact h.filter _
theorem jB{L:List (α×β)}(hn:(zj L).Nodup)(a k:α):zD (xa L a) k=if k=a then z1 else zD L k:=by
 split
 next h=>
  subst h
  exact xr.2 (by rw[XV];simp)
 next h=>
  cases b:zD L k with
  |none=>exact xr.2 (by rw[XV];simp;intro c;exact absurd c (xr.1 b))
  |some u=>exact xp (xU hn) (zT.2 ⟨zB b,h⟩)
theorem vi{L:List (α×β)}{a:α}{v:β}:(xZ L a v).length=if a∈zj L then L.length else L.length+1:=by
 unfold xZ;split<;>simp
theorem KO{L:List (α×β)}{a:α}:(xa L a).length<=L.length:=List.length_filter_le _ _
variable {M:MK α β}
def znQ(M:MK α β)(c:Bool)(o:Option β):z2:=match o with
 |none=>if c then .tuple #[M.z,.bool false]else M.z
 |some v=>if c then .tuple #[M.ve v,.bool true]else M.ve v
theorem kt(ok:M.Ok)(c:Bool){w:G}{b:Nat}{L:List (α×β)}(h:xe M w b L){s:α}(r:M.wf s):
  (Instr.lookup M.T (.map (z0 b)) (M.ke s) c).run M.P w=.ok (znQ M c (zD L s)) w:=by
 obtain⟨m,e,l,d⟩:=h
 obtain⟨u,a⟩:=ok.key s r
 rcases ok.law.find w a m.toList (d.keys ok)with⟨f,g⟩|⟨j,t,f,g,n⟩
 ·have i:zD L s=z1:=xr.2 (d.absent g)
  simp[Instr.lookup,run_underlying ok.und,MapKept.run_getObj_map l,ok.law.check w _ a,f,ok.zero w,Result.andThen,znQ,i]
 ·obtain⟨p,q,o,hv⟩:=d.at g
  have k:p.1=s:=ok.inj _ _ (o.symm.trans n)
  have i:zD L s=z0 p.2:=by rw[<-k];exact xp d.nodup (List.mem_of_getElem? q)
  simp[Instr.lookup,run_underlying ok.und,MapKept.run_getObj_map l,ok.law.check w _ a,f,Result.andThen,znQ,i,hv]
theorem xT{w:G}{b:Nat}(o:Obj):zh (fun k=>k=b) w (setBlock w b o):=⟨rfl,rfl,rfl,by simp[setBlock],fun k c a=>by
  simp only[setBlock];rw[Array.getElem?_setIfInBounds_ne (fun e=>a e.symm)]⟩
theorem jr(ok:M.Ok){w:G}{b:Nat}{L:List (α×β)}(h:xe M w b L)(O:L.length<maxLen){s:α}(Q:M.wf s)(v:β):
  ∃o,(Instr.mapUpdate M.T (.map (z0 b)) (M.ke s) (M.ve v)).run M.P w=.ok () (setBlock w b o)/\xe M (setBlock w b o) b (xZ L s v)/\zh (fun k=>k=b) w (setBlock w b o)/\o.isCells=false:=by
 have I:=h.lt
 have A:∀o,(setBlock w b o).1[b]?=z0 o:=fun o=>by simp[setBlock,I]
 obtain⟨r,f,E,d⟩:=h
 obtain⟨kl,t⟩:=ok.key s Q
 rcases ok.law.find w t r.toList (d.keys ok)with⟨H,y⟩|⟨j,z,H,y,V⟩
 ·have Y:s∉zj L:=d.absent y
  refine⟨.map (r.push ⟨M.ke s,M.ve v,f⟩) (f+1),?_,⟨_,_,A _,?_⟩,xT _,rfl⟩
  ·simp[Instr.mapUpdate,run_underlying ok.und,MapKept.run_getObj_map E,ok.law.check w false t,H,MapKept.run_setObj_map _ E,Result.andThen,setBlock]
  ·have l:xZ L s v=L++[(s,v)]:=by unfold xZ;rw[if_neg Y]
   refine⟨by rw[l];simp[d.kv],?_,?_,?_,qc d.nodup,by have:=d.count;simp;omega⟩
   ·intro x n
    simp at n
    rcases n with n|rfl
    ·have:=d.born x (by simpa using n);omega
    ·simp
   ·rw[Array.toList_push,List.map_append,List.nodup_append]
    refine⟨d.once,by simp,fun a X c W=>?_⟩
    simp at W;subst W
    obtain⟨x,n,rfl⟩:=List.mem_map.1 X
    have:=d.born x n;omega
   ·rw[l];intro p l
    rcases List.mem_append.1 l with l|l
    ·exact d.wf p l
    ·simp at l;subst l;exact Q
 ·obtain⟨p,l,hk,hv⟩:=d.at y
  have u:p.1=s:=ok.inj _ _ (hk.symm.trans V)
  have hj:r[j]?=z0 z:=by simpa using y
  have J:s∈zj L:=by unfold zj;exact List.mem_map.2 ⟨p,List.mem_of_getElem? l,u⟩
  have g:(r.modify j (fun F=>{F with key:=M.ke s,val:=M.ve v})).toList=r.toList.set j {z with key:=M.ke s,val:=M.ve v}:=by rw[Array.toList_modify,modify_eq_set _ _ _ _ y]
  refine⟨.map (r.modify j (fun F=>{F with key:=M.ke s,val:=M.ve v})) f,?_,⟨_,_,A _,?_⟩,xT _,rfl⟩
  ·simp[Instr.mapUpdate,run_underlying ok.und,MapKept.run_getObj_map E,ok.law.check w false t,H,hj,V,ok.law.stays w t,MapKept.run_setObj_map _ E,Result.andThen,setBlock]
  ·have C:xZ L s v=L.set j (s,v):=by
    unfold xZ;rw[if_pos J]
    apply List.ext_getElem?
    intro i
    rw[List.getElem?_map,List.getElem?_set]
    by_cases e:j=i
    ·subst e
     have m:j<L.length:=(List.getElem?_eq_some_iff.1 l).1
     rw[l];simp only[Option.map_some,u,if_true,m]
    ·rw[if_neg e]
     cases Z:L[i]? with
     |none=>simp
     |some q=>
      have K:q.1≠s:=fun U=>by
       have D:L.Pairwise (fun a b=>a.1≠b.1):=List.pairwise_map.1 d.nodup
       obtain⟨B,R⟩:=List.getElem?_eq_some_iff.1 Z
       obtain⟨m,S⟩:=List.getElem?_eq_some_iff.1 l
       rcases Nat.lt_or_gt_of_ne e with h|h
       ·have:=List.pairwise_iff_getElem.1 D j i m B h;rw[R,S]at this;exact this (u.trans U.symm)
       ·have:=List.pairwise_iff_getElem.1 D i j B m h;rw[R,S]at this;exact this (U.trans u.symm)
      simp[K]
   refine⟨?_,?_,?_,?_,qc d.nodup,by simpa using d.size⟩
   ·rw[g,C,List.map_set,List.map_set,d.kv]
   ·intro x n
    rw[g]at n
    rcases List.mem_or_eq_of_mem_set n with n|rfl
    ·exact d.born x n
    ·exact d.born z (List.mem_of_getElem? y)
   ·rw[g,List.map_set]
    have:(r.toList.map (·.born)).set j z.born=r.toList.map (·.born):=by
     apply List.ext_getElem?
     intro i
     rw[List.getElem?_set]
     by_cases e:j=i
     ·subst e
      have m:j<r.toList.length:=(List.getElem?_eq_some_iff.1 y).1
      simp only[List.length_map,m,if_true,List.getElem?_map,y,Option.map_some]
     ·rw[if_neg e]
    show((r.toList.map (·.born)).set j z.born).Nodup
    rw[this];exact d.once
   ·intro q N
    rcases qF N with rfl|⟨N,_⟩
    ·exact Q
    ·exact d.wf q N
theorem Yw(ok:M.Ok){w:G}{b:Nat}{L:List (α×β)}{k:Array MapEntry}{c:Nat}(E:w.1[b]?=z0 (.map k c))(g:vK M k c L){s:α}(Z:M.wf s)(ty:TypeId):
  ∃n,(Builtin.delete_ #[M.T,M.K] ty #[.map (z0 b),M.ke s]).run M.P w=.ok (.tuple #[]) (setBlock w b (.map n c))/\vK M n c (xa L s)/\(∀e,e∈n.toList↔e∈k.toList/\e.key≠M.ke s):=by
 obtain⟨kl,o⟩:=ok.key s Z
 rcases ok.law.find w o k.toList (g.keys ok)with⟨H,v⟩|⟨j,e0,H,v,R⟩
 ·have W:s∉zj L:=g.absent v
  have I:xa L s=L:=by
   unfold xa;rw[List.filter_eq_self]
   intro p B;simp;intro e;exact W (List.mem_map.2 ⟨p,B,e⟩)
  refine⟨k,?_,by rw[I];exact g,fun e=>⟨fun h=>⟨h,v e h⟩,fun h=>h.1⟩⟩
  simp[Builtin.delete_,run_underlying ok.und,MapKept.run_getObj_map E,ok.law.check w _ o,H,MapKept.run_setObj_map _ E,Result.andThen,setBlock]
 ·obtain⟨p,B,Y,hv⟩:=g.at v
  have t:p.1=s:=ok.inj _ _ (Y.symm.trans R)
  have J:j<k.toList.length:=(List.getElem?_eq_some_iff.1 v).1
  have N:j<k.size:=by simpa using J
  have f:(k.eraseIdxIfInBounds j).toList=k.toList.eraseIdx j:=by
   unfold Array.eraseIdxIfInBounds
   rw[dif_pos N]
   simp
  have C:L.Pairwise (fun a b=>a.1≠b.1):=List.pairwise_map.1 g.nodup
  have z:j<L.length:=(List.getElem?_eq_some_iff.1 B).1
  have d:∀i q,L[i]?=z0 q->i≠j->q.1≠s:=fun i q l r Q=>by
   obtain⟨y,u⟩:=List.getElem?_eq_some_iff.1 l
   obtain⟨_,D⟩:=List.getElem?_eq_some_iff.1 B
   rcases Nat.lt_or_gt_of_ne r with h|h
   ·have:=List.pairwise_iff_getElem.1 C i j y z h;rw[u,D]at this;exact this (Q.trans t.symm)
   ·have:=List.pairwise_iff_getElem.1 C j i z y h;rw[u,D]at this;exact this (t.trans Q.symm)
  have I:xa L s=L.eraseIdx j:=by
   have U:L=L.take j++p::L.drop (j+1):=by
    obtain⟨A,D⟩:=List.getElem?_eq_some_iff.1 B
    rw[<-D,<-List.drop_eq_getElem_cons A];exact(List.take_append_drop j L).symm
   have t1:∀q∈L.take j,q.1≠s:=fun q m=>by
    obtain⟨i,l,u⟩:=List.getElem_of_mem m
    have X:i<j:=by simp at l;omega
    exact d i q (by rw[<-u];simp[List.getElem_take]) (by omega)
   have t2:∀q∈L.drop (j+1),q.1≠s:=fun q m=>by
    obtain⟨i,l,u⟩:=List.getElem_of_mem m
    exact d (j+1+i) q (by rw[<-u];simp at l ⊢) (by omega)
   rw[List.eraseIdx_eq_take_drop_succ]
   unfold xa
   conv=>lhs;rw[U]
   rw[List.filter_append,List.filter_cons_of_neg (by simp[t]),List.filter_eq_self.2 (fun q m=>by simpa using t1 q m),List.filter_eq_self.2 (fun q m=>by simpa using t2 q m)]
  refine⟨k.eraseIdxIfInBounds j,?_,⟨?_,?_,?_,?_,xU g.nodup,?_⟩,?_⟩
  ·simp[Builtin.delete_,run_underlying ok.und,MapKept.run_getObj_map E,ok.law.check w _ o,H,MapKept.run_setObj_map _ E,Result.andThen,setBlock]
  ·rw[f,I,Go.ChangeMaps.map_eraseIdx,Go.ChangeMaps.map_eraseIdx,g.kv]
  ·intro x S;rw[f]at S;exact g.born x ((List.eraseIdx_sublist _ _).subset S)
  ·rw[f];exact g.once.sublist ((List.eraseIdx_sublist _ _).map _)
  ·intro q m;exact g.wf q (zT.1 m).1
  ·have:=MapFrom.size_erase k j;have:=g.size;omega
  ·intro e
   rw[f]
   constructor
   ·intro h
    refine⟨(List.eraseIdx_sublist _ _).subset h,fun F=>?_⟩
    obtain⟨i,r,l⟩:=List.mem_eraseIdx_iff_getElem?.1 h
    obtain⟨q,m,O,_⟩:=g.at l
    exact d i q m r (ok.inj _ _ (O.symm.trans F))
   ·rintro⟨h,F⟩
    obtain⟨i,l⟩:=List.mem_iff_getElem?.1 h
    refine List.mem_eraseIdx_iff_getElem?.2 ⟨i,fun V=>?_,l⟩
    subst V
    rw[v]at l
    cases l
    exact F R
end
end Go.Proofs.YtndhpgciopcncaaGreatDoor
namespace Go.Proofs.YtndhpgciopcncaaGreatDoor
open Go.RowKit
def Yb{α:Type}(F:Fence)(n:Nat)(P:Program)(g:Nat)(lb:Array z2)(encs:α->Array z2)(Kp:G->G->Prop)(S d:List α->Prop)(N m:Nat)(w:G):Prop:=
 ∀(l:Nat) (J c:List α->G->Prop) (W:G),Below w.1.size w W->m<=W.1.size->OwnFrom W.1.size J->OwnFrom W.1.size c->
  (∀a x V,J a V->a.length<N->YieldAt F (n-1) P l (encs x) V fun e b=>(e=.returned (.bool true)/\J (a++[x]) b/\Kp V b)\/(e=.returned (.bool false)/\c (a++[x]) b/\Kp V b))->
  J [] W->CallsIn F n P g (#[.func (.yield l) #[] #[]]++lb) W fun e V=>(∃v,e=.returned v)/\((∃xs,S xs/\J xs V)\/∃a,d a/\c a V)
theorem VL{β:Type}{B:Nat}{J:β->G->Prop}(h:OwnFrom B J):AbidesFrom B J:=fun s W b a j g i=>
 h s W b a j g (fun r e=>by obtain⟨c,o,d,f⟩:=i r e;exact⟨c,o,d,Obj.not_cells_of_walk f⟩)
theorem Yb.of{α:Type}{F:Fence}{n:Nat}{P:Program}{g:Nat}{lb:Array z2}{encs:α->Array z2}{Kp:G->G->Prop}{S f:List α->Prop}{N m:Nat}{w:G}(h:SeqStopsK F n P g lb encs Kp S f N w):Yb F n P g lb encs Kp S f N m w:=
 fun l J i W o _ k c p j=>h l J i W o (VL k) (VL c) (fun d x V hv r=>(p d x V hv r).mono fun e s q=>q.imp id (fun⟨a,b,_⟩=>⟨a,b⟩)) j
theorem Yb.keeps{α:Type}{F:Fence}{n:Nat}{P:Program}{g:Nat}{lb:Array z2}{encs:α->Array z2}{Kp i:G->G->Prop}{S j:List α->Prop}{N m:Nat}{w:G}(h:Yb F n P g lb encs Kp S j N m w)(k:∀A B,i A B->Kp A B):Yb F n P g lb encs i S j N m w:=
 fun l J o W r v q d s p=>h l J o W r v q d (fun f x V hv u=>(s f x V hv u).mono fun e y t=>t.imp (fun⟨a,b,c⟩=>⟨a,b,k _ _ c⟩) (fun⟨a,b,c⟩=>⟨a,b,k _ _ c⟩)) p
theorem Yb.inRound{α:Type}{F:Fence}{n:Nat}{P:Program}{g:Nat}{lb:Array z2}{encs:α->Array z2}{Kp:G->G->Prop}{S a:List α->Prop}{N m:Nat}{w:G}(l:Nat)(h:Yb F n P g lb encs Kp S a N m w):Yb (F.inRound l) n P g lb encs Kp S a N m w:=h
def Ys{α:Type}(B:Nat)(Kp:G->G->Prop)(c:List α->G->Prop)(b:Code->List α->G->Prop)(xs:List α)(W:G)(e:Exit)(_:Act)(a:G):Prop:=
 KeepsFrom B W a/\Kp W a/\match e with
 | .normal=>c xs a
 | .ret=>b .ret xs a
 | .exit id=>b (.exit id) xs a
 | .goto t=>b (.goto t) xs a
 | .panic _=>False
 | .outgrown=>False
theorem km{W b:G}{a:Option Nat}{B k:Nat}{o:Obj}(c:W.grownBy b a)(d:∀r,a=z0 r->B<=r)(f:k<B)(h:W.1[k]?=z0 o):b.1[k]?=z0 o:=
 (c.block k (zd h) (fun e=>by have:=d k e.symm;omega)).trans h
section
variable {α:Type} {F:Fence} {n:Nat} {P:Program} {ps:Array Tmp} {assign body:Code} {encs:α->Array z2} {Kp:G->G->Prop} {N:Nat}
theorem zdb(B l fn h:Nat)(tmps:Array z2)(hF:F.fn fn)(i:B<=l)(a5:∀x,(encs x).size=ps.size)(E:G->Prop)(hE:∀W u,E W->KeepsFrom B W u->E u)(y:∀W o,E W->E (W.putObj l o))
  (z:∀{X Y Z:G},Kp X Y->Kp Y Z->Kp X Z) (H:∀(W:G) (o O:Obj),W.1[l]?=z0 o->o.isCells=false->o.isWalk=false->Kp W (W.putObj l O))
  (w:List α->G->Prop) (D:Code->List α->G->Prop) (hI:OwnFrom B w) (T:∀c,OwnFrom B (D c)) (Q:α->Act->G->Prop) (S:∀x m,OwnFrom B (fun(_:Unit) W=>Q x m W))
  (k:∀(a:List α) (x:α) (W:G) (K:Act->G->Prop),w a W->(∀m u,KeepsFrom B W u->Kp W u->w a u->Q x m u->K m u)->
   assign.wpIn (F.inRound l) n P (Exit.then K (fun _ _ _=>False)) {tmps:=(ps.zip (encs x)).foldl (fun t (p,v)=>t.setIfInBounds p v) tmps,defers:=[]} W)
  (A:∀(a:List α) (x:α) (m:Act) (W:G),(∃r:Loop,W.1[l]?=z0 (.loop r)/\r.defers=h)->w a W->Q x m W->a.length<N->body.wpIn (F.inRound l) n P (Ys B Kp w D (a++[x]) W) m W)
  (a:List α) (x:α) (W:G) (hi:w a W) (hl:W.1[l]?=z0 (.loop {state:=.ready,pending:=z1,fn,tmps,params:=ps,assign,body,defers:=h})) (he:E W) (J:a.length<N):
  YieldAt F n P l (encs x) W fun e V=>(e=.returned (.bool true)/\(w (a++[x]) V/\V.1[l]?=z0 (.loop {state:=.ready,pending:=z1,fn,tmps,params:=ps,assign,body,defers:=h})/\E V)/\Kp W V)\/
   (e=.returned (.bool false)/\(∃c,D c (a++[x]) V/\V.1[l]?=z0 (.loop {state:=.done,pending:=z0 c,fn,tmps,params:=ps,assign,body,defers:=h})/\E V)/\Kp W V):=by
 refine⟨fn,_,assign,body,run_yield (P:=P) (args:=encs x) hl (a5 x),roundIn_of_wpIn hF (k a x W _ hi fun m X I a4 a2 U=>?_)⟩
 have j:=I.same l _ i hl rfl
 have a0:=hE _ _ he I
 refine⟨_,run_beginRound j rfl,wpIn_mono (A a x m _ ⟨_,World.putObj_heap_same (zd j),rfl⟩ (hI.putObj _ a2 i j rfl) ((S x m).putObj (s:=()) _ U i j rfl) J) ?_⟩
 have hb:=World.putObj_heap_same (o:=.loop {state:=.busy,pending:=z1,fn,tmps,params:=ps,assign,body,defers:=h}) (zd j)
 have b:∀V,KeepsFrom B (X.putObj l (.loop {state:=.busy,pending:=z1,fn,tmps,params:=ps,assign,body,defers:=h})) V->V.1[l]?=z0 (.loop {state:=.busy,pending:=z1,fn,tmps,params:=ps,assign,body,defers:=h})/\E V:=
  fun V f=>⟨f.same l _ i hb rfl,hE _ _ (y _ _ a0) f⟩
 have g:∀c V,KeepsFrom B (X.putObj l (.loop {state:=.busy,pending:=z1,fn,tmps,params:=ps,assign,body,defers:=h})) V->D c (a++[x]) V->
   D c (a++[x]) (V.putObj l (.loop {state:=.done,pending:=z0 c,fn,tmps,params:=ps,assign,body,defers:=h}))/\(V.putObj l (.loop {state:=.done,pending:=z0 c,fn,tmps,params:=ps,assign,body,defers:=h})).1[l]?=z0 (.loop {state:=.done,pending:=z0 c,fn,tmps,params:=ps,assign,body,defers:=h})/\E (V.putObj l (.loop {state:=.done,pending:=z0 c,fn,tmps,params:=ps,assign,body,defers:=h})):=fun c V f C=>by
  obtain⟨q,R⟩:=b V f
  exact⟨(T c).putObj _ C i q rfl,World.putObj_heap_same (zd q),y _ _ R⟩
 have M:∀V O,Kp (X.putObj l (.loop {state:=.busy,pending:=z1,fn,tmps,params:=ps,assign,body,defers:=h})) V->V.1[l]?=z0 (.loop {state:=.busy,pending:=z1,fn,tmps,params:=ps,assign,body,defers:=h})->Kp W (V.putObj l O):=fun V O d q=>z a4 (z (z (H _ _ _ j rfl rfl) d) (H _ _ _ q rfl rfl))
 intro e a3 V L
 match e,L with
 | .normal,⟨f,d,a1⟩=>
  obtain⟨q,R⟩:=b V f
  exact⟨_,_,run_endRound (P:=P) z1 q,.inl ⟨rfl,⟨hI.putObj _ a1 i q rfl,World.putObj_heap_same (zd q),y _ _ R⟩,M V _ d q⟩⟩
 | .ret,⟨f,d,C⟩=>exact⟨_,_,run_endRound (P:=P) (z0 .ret) (b V f).1,.inr ⟨rfl,⟨.ret,g .ret V f C⟩,M V _ d (b V f).1⟩⟩
 | .exit id,⟨f,d,C⟩=>exact⟨_,_,run_endRound (P:=P) (z0 (.exit id)) (b V f).1,.inr ⟨rfl,⟨.exit id,g (.exit id) V f C⟩,M V _ d (b V f).1⟩⟩
 | .goto t,⟨f,d,C⟩=>exact⟨_,_,run_endRound (P:=P) (z0 (.goto t)) (b V f).1,.inr ⟨rfl,⟨.goto t,g (.goto t) V f C⟩,M V _ d (b V f).1⟩⟩
 | .panic ch,L=>exact L.2.2.elim
 | .outgrown,L=>exact L.2.2.elim
end
section
variable {α:Type} {F:Fence} {n:Nat} {P:Program} {g:Operand} {ps:Array Tmp} {assign body:Code} {Q:Exit->Act->G->Prop} {a:Act} {w:G}
theorem qU(a7:F.round=z1)(h1:1<=n){gf:Nat}{lb:Array z2}(hg:a.eval g=.func (.func gf) #[] lb)(a1:F.fn gf)(eg:∀args w,(callFunc gf args).run P w=.ok (.enter gf args) w)
  {encs:α->Array z2} {Kp:G->G->Prop} {S Sp:List α->Prop} {N m:Nat} {w0:G} (R:Yb F (n-1) P gf lb encs Kp S Sp N m w0) (hm:m<=w.1.size+2)
  (a4:∀{X Y Z:G},Kp X Y->Kp Y Z->Kp X Z) (a3:∀(W:G) (o o':Obj),W.1[w.1.size+1]?=z0 o->o.isCells=false->o.isWalk=false->Kp W (W.putObj (w.1.size+1) o')) (J:Below w0.1.size w0 w) (a6:∀x,(encs x).size=ps.size)
  (j:List α->G->Prop) (H:Code->List α->G->Prop) (I:OwnFrom w.1.size j) (u:∀c,OwnFrom w.1.size (H c)) (h0:j [] w) (Ax:α->Act->G->Prop) (a0:∀x q,OwnFrom w.1.size (fun(_:Unit) W=>Ax x q W))
  (f:∀(l:Nat) (b:List α) (x:α) (W:G) (K:Act->G->Prop),j b W->(∀q E,KeepsFrom w.1.size W E->Kp W E->j b E->Ax x q E->K q E)->
   assign.wpIn (F.inRound l) (n-1-1) P (Exit.then K (fun _ _ _=>False)) {tmps:=(ps.zip (encs x)).foldl (fun t (p,v)=>t.setIfInBounds p v) a.tmps,defers:=[]} W)
  (y:∀(l:Nat) (b:List α) (x:α) (q:Act) (W:G),w.1.size<=l->(∃r,W.1[l]?=z0 (.loop r))->j b W->Ax x q W->b.length<N->body.wpIn (F.inRound l) (n-1-1) P (Ys w.1.size Kp j H (b++[x]) W) q W)
  (z:∀(D:Nat) (xs:List α) (W:G),w.1.size<=D->S xs->j xs W->W.1[D]?=z0 (.deferred (z0 []))->Q .normal {a with defers:={target:=.collected D,args:=#[]}::a.defers} W)
  (A:∀(D:Nat) (c:Code) (b:List α) (W:G),w.1.size<=D->Sp b->H c b W->W.1[D]?=z0 (.deferred (z0 []))->c.wpIn F n P Q {a with defers:={target:=.collected D,args:=#[]}::a.defers} W):
  (Code.rangeFunc g ps assign body).wpIn F n P Q a w:=by
 refine wpIn_rangeFunc fun fn a5=>?_
 rw[a7]
 have hz:((w.alloc (.deferred (z0 []))).alloc (.loop {state:=.ready,pending:=z1,fn,tmps:=a.tmps,params:=ps,assign,body,defers:=w.1.size})).1.size=w.1.size+2:=by simp
 refine⟨w.1.size+1,[{target:=.collected w.1.size,args:=#[]}],((w.alloc (.deferred (z0 []))).alloc (.loop {state:=.ready,pending:=z1,fn,tmps:=a.tmps,params:=ps,assign,body,defers:=w.1.size})),{target:=.fn (.func gf) lb,args:=#[.func (.yield (w.1.size+1)) #[] #[]]},((w.alloc (.deferred (z0 []))).alloc (.loop {state:=.ready,pending:=z1,fn,tmps:=a.tmps,params:=ps,assign,body,defers:=w.1.size})),gf,#[.func (.yield (w.1.size+1)) #[] #[]]++lb,((w.alloc (.deferred (z0 []))).alloc (.loop {state:=.ready,pending:=z1,fn,tmps:=a.tmps,params:=ps,assign,body,defers:=w.1.size})),run_enterLoop_outer fn a.tmps ps assign body,by simp only[resolve,hg];simp[go_sem],fun f' L=>by simp[Target.leads]at L;subst L;exact a1,by simp[invoke,go_sem,eg],fun _=>h1,?_⟩
 have hD:((w.alloc (.deferred (z0 []))).alloc (.loop {state:=.ready,pending:=z1,fn,tmps:=a.tmps,params:=ps,assign,body,defers:=w.1.size})).1[w.1.size]?=z0 (.deferred (z0 [])):=(Below.heap_alloc _ _ _ (by simp)).trans (World.alloc_heap_new w _)
 have hL:((w.alloc (.deferred (z0 []))).alloc (.loop {state:=.ready,pending:=z1,fn,tmps:=a.tmps,params:=ps,assign,body,defers:=w.1.size})).1[w.1.size+1]?=z0 (.loop {state:=.ready,pending:=z1,fn,tmps:=a.tmps,params:=ps,assign,body,defers:=w.1.size}):=by
  have:=World.alloc_heap_new (w.alloc (.deferred (z0 []))) (.loop {state:=.ready,pending:=z1,fn,tmps:=a.tmps,params:=ps,assign,body,defers:=w.1.size});rwa[World.size_alloc]at this
 have hB:Below w0.1.size w0 ((w.alloc (.deferred (z0 []))).alloc (.loop {state:=.ready,pending:=z1,fn,tmps:=a.tmps,params:=ps,assign,body,defers:=w.1.size})):=J.trans ((((Below.refl _ w).alloc (z3 _) _).alloc (by simp) _).mono J.size)
 have a2:=I.alloc (.loop {state:=.ready,pending:=z1,fn,tmps:=a.tmps,params:=ps,assign,body,defers:=w.1.size}) (I.alloc (.deferred (z0 [])) h0)
 generalize((w.alloc (.deferred (z0 []))).alloc (.loop {state:=.ready,pending:=z1,fn,tmps:=a.tmps,params:=ps,assign,body,defers:=w.1.size}))=W1 at*
 refine(R (w.1.size+1)
  (fun b W=>j b W/\W.1[w.1.size+1]?=z0 (.loop {state:=.ready,pending:=z1,fn,tmps:=a.tmps,params:=ps,assign,body,defers:=w.1.size})/\W.1[w.1.size]?=z0 (.deferred (z0 [])))
  (fun b W=>∃c,H c b W/\W.1[w.1.size+1]?=z0 (.loop {state:=.done,pending:=z0 c,fn,tmps:=a.tmps,params:=ps,assign,body,defers:=w.1.size})/\W.1[w.1.size]?=z0 (.deferred (z0 [])))
  W1 hB (by omega) (fun s X Y C O d i=>⟨I s X Y C O.1 d (fun r e=>⟨by have:=(i r e).1;omega,(i r e).2⟩),km d (fun r e=>(i r e).1) (by omega) O.2.1,km d (fun r e=>(i r e).1) (by omega) O.2.2⟩)
  (fun s X Y C O d i=>by
   obtain⟨c,T,B,U⟩:=O
   exact⟨c,u c s X Y C T d (fun r e=>⟨by have:=(i r e).1;omega,(i r e).2⟩),km d (fun r e=>(i r e).1) (by omega) B,km d (fun r e=>(i r e).1) (by omega) U⟩)
  (fun b x V hv M=>?_) ⟨a2,hL,hD⟩).mono ?_
 ·obtain⟨v1,v2,v3⟩:=hv
  exact zdb (P:=P) (Kp:=Kp) (n:=n-1-1) w.1.size (w.1.size+1) fn w.1.size a.tmps a5 (by omega) a6 (fun W=>W.1[w.1.size]?=z0 (.deferred (z0 []))) (fun W E he hk=>hk.same _ _ (z3 _) he rfl) (fun W o he=>(World.putObj_heap_other (by omega)).trans he)
   (fun h k=>a4 h k) (fun W o o'=>a3 W o o') j H I u Ax a0 (fun b x W K=>f _ b x W K) (fun b x q W ⟨r,i,_⟩=>y _ b x q W (by omega) ⟨r,i⟩) b x V v1 v2 v3 M
 ·rintro e V ⟨⟨v,rfl⟩,(⟨xs,hS,T,B,U⟩|⟨b,hS,c,T,B,U⟩)⟩
  ·exact⟨z1,_,run_endLoop (P:=P) B (by simp),z _ xs _ (z3 _) hS (I.putObj _ T (by omega) B rfl) ((World.putObj_heap_other (by omega)).trans U)⟩
  ·exact⟨z0 c,_,run_endLoop (P:=P) B (by simp),A _ c b _ (z3 _) hS ((u c).putObj _ T (by omega) B rfl) ((World.putObj_heap_other (by omega)).trans U)⟩
theorem zlE{l₀:Nat}{r₀:Loop}(a8:F.round=z0 l₀)(a6:w.1[l₀]?=z0 (.loop r₀))(h1:1<=n){gf:Nat}{lb:Array z2}(hg:a.eval g=.func (.func gf) #[] lb)(a1:F.fn gf)(eg:∀args w,(callFunc gf args).run P w=.ok (.enter gf args) w)
  {encs:α->Array z2} {Kp:G->G->Prop} {S Sp:List α->Prop} {N m:Nat} {O:G} (M:Yb F (n-1) P gf lb encs Kp S Sp N m O) (hm:m<=w.1.size+1)
  (a4:∀{X Y Z:G},Kp X Y->Kp Y Z->Kp X Z) (a3:∀(W:G) (o o':Obj),W.1[w.1.size]?=z0 o->o.isCells=false->o.isWalk=false->Kp W (W.putObj w.1.size o')) (I:Below O.1.size O w) (a7:∀x,(encs x).size=ps.size)
  (j:List α->G->Prop) (E:Code->List α->G->Prop) (T:OwnFrom w.1.size j) (z:∀c,OwnFrom w.1.size (E c)) (h0:j [] w) (R:α->Act->G->Prop) (a0:∀x q,OwnFrom w.1.size (fun(_:Unit) W=>R x q W))
  (d:∀(l:Nat) (b:List α) (x:α) (W:G) (K:Act->G->Prop),j b W->(∀q H,KeepsFrom w.1.size W H->Kp W H->j b H->R x q H->K q H)->
   assign.wpIn (F.inRound l) (n-1-1) P (Exit.then K (fun _ _ _=>False)) {tmps:=(ps.zip (encs x)).foldl (fun t (p,v)=>t.setIfInBounds p v) a.tmps,defers:=[]} W)
  (A:∀(l:Nat) (b:List α) (x:α) (q:Act) (W:G),w.1.size<=l->(∃r,W.1[l]?=z0 (.loop r))->j b W->R x q W->b.length<N->body.wpIn (F.inRound l) (n-1-1) P (Ys w.1.size Kp j E (b++[x]) W) q W)
  (B:∀(xs:List α) (W:G),S xs->j xs W->Q .normal a W)
  (C:∀(c:Code) (b:List α) (W:G),Sp b->E c b W->c.wpIn F n P Q a W):
  (Code.rangeFunc g ps assign body).wpIn F n P Q a w:=by
 refine wpIn_rangeFunc fun fn a5=>?_
 rw[a8]
 have hz:(w.alloc (.loop {state:=.ready,pending:=z1,fn,tmps:=a.tmps,params:=ps,assign,body,defers:=r₀.defers})).1.size=w.1.size+1:=by simp
 refine⟨w.1.size,[],(w.alloc (.loop {state:=.ready,pending:=z1,fn,tmps:=a.tmps,params:=ps,assign,body,defers:=r₀.defers})),{target:=.fn (.func gf) lb,args:=#[.func (.yield w.1.size) #[] #[]]},(w.alloc (.loop {state:=.ready,pending:=z1,fn,tmps:=a.tmps,params:=ps,assign,body,defers:=r₀.defers})),gf,#[.func (.yield w.1.size) #[] #[]]++lb,(w.alloc (.loop {state:=.ready,pending:=z1,fn,tmps:=a.tmps,params:=ps,assign,body,defers:=r₀.defers})),run_enterLoop_inner a6 fn a.tmps ps assign body,by simp only[resolve,hg];simp[go_sem],fun f' J=>by simp[Target.leads]at J;subst J;exact a1,by simp[invoke,go_sem,eg],fun _=>h1,?_⟩
 have hL:(w.alloc (.loop {state:=.ready,pending:=z1,fn,tmps:=a.tmps,params:=ps,assign,body,defers:=r₀.defers})).1[w.1.size]?=z0 (.loop {state:=.ready,pending:=z1,fn,tmps:=a.tmps,params:=ps,assign,body,defers:=r₀.defers}):=World.alloc_heap_new w _
 have hB:Below O.1.size O (w.alloc (.loop {state:=.ready,pending:=z1,fn,tmps:=a.tmps,params:=ps,assign,body,defers:=r₀.defers})):=I.trans (((Below.refl _ w).alloc (z3 _) _).mono I.size)
 have a2:=T.alloc (.loop {state:=.ready,pending:=z1,fn,tmps:=a.tmps,params:=ps,assign,body,defers:=r₀.defers}) h0
 generalize(w.alloc (.loop {state:=.ready,pending:=z1,fn,tmps:=a.tmps,params:=ps,assign,body,defers:=r₀.defers}))=W1 at*
 refine(M w.1.size
  (fun b W=>j b W/\W.1[w.1.size]?=z0 (.loop {state:=.ready,pending:=z1,fn,tmps:=a.tmps,params:=ps,assign,body,defers:=r₀.defers}))
  (fun b W=>∃c,E c b W/\W.1[w.1.size]?=z0 (.loop {state:=.done,pending:=z0 c,fn,tmps:=a.tmps,params:=ps,assign,body,defers:=r₀.defers}))
  W1 hB (by omega) (fun s X Y D U f u=>⟨T s X Y D U.1 f (fun r e=>⟨by have:=(u r e).1;omega,(u r e).2⟩),km f (fun r e=>(u r e).1) (by omega) U.2⟩)
  (fun s X Y D U f u=>by
   obtain⟨c,y,i⟩:=U
   exact⟨c,z c s X Y D y f (fun r e=>⟨by have:=(u r e).1;omega,(u r e).2⟩),km f (fun r e=>(u r e).1) (by omega) i⟩)
  (fun b x V hv L=>?_) ⟨a2,hL⟩).mono ?_
 ·obtain⟨v1,v2⟩:=hv
  refine(zdb (P:=P) (Kp:=Kp) (n:=n-1-1) w.1.size w.1.size fn r₀.defers a.tmps a5 (z3 _) a7 (fun _=>True) (fun _ _ _ _=>trivial) (fun _ _ _=>trivial)
   (fun h k=>a4 h k) (fun W o o'=>a3 W o o') j E T z R a0 (fun b x W K=>d _ b x W K) (fun b x q W ⟨r,u,_⟩=>A _ b x q W (z3 _) ⟨r,u⟩) b x V v1 v2 trivial L).mono ?_
  rintro e V' (⟨e1,⟨y,i,_⟩,k3⟩|⟨e1,⟨c,y,i,_⟩,k3⟩)
  ·exact .inl ⟨e1,⟨y,i⟩,k3⟩
  ·exact .inr ⟨e1,⟨c,y,i⟩,k3⟩
 ·rintro e V ⟨⟨v,rfl⟩,(⟨xs,hS,y,i⟩|⟨b,hS,c,y,i⟩)⟩
  ·exact⟨z1,_,run_endLoop (P:=P) i (by simp),B xs _ hS (T.putObj _ y (z3 _) i rfl)⟩
  ·exact⟨z0 c,_,run_endLoop (P:=P) i (by simp),C c b _ hS ((z c).putObj _ y (z3 _) i rfl)⟩
end
theorem kW{F:Fence}(f:F.depth=z1){m m':Nat}{P:Program}{l:Nat}{args:Array z2}{W:G}{R:Ending->G->Prop}(h:YieldAt F m P l args W R):YieldAt F m' P l args W R:=by
 obtain⟨fn,tmps,assign,body,g,a,b⟩:=h
 exact⟨fn,tmps,assign,body,g,a,fun c cs _=>b c cs (fun d e=>by rw[f]at e;cases e)⟩
def zqg(o:Obj):Prop:=∃c a,o=.cells c 148 a
theorem zol{o:Obj}(h:o.isCells=false):¬zqg o:=fun⟨_,_,e⟩=>by rw[e]at h;cases h
structure KX(ex:Nat->Prop)(n m:Nat)(A B:G):Prop where
 kept:zh (fun k=>ex k\/n<=k) A B
 walk:∀k o,¬ex k->A.1[k]?=z0 o->o.isWalk=true->B.1[k]?=z0 o
 high:∀k o,m<=k->¬zqg o->A.1[k]?=z0 o->B.1[k]?=z0 o
section
variable {ex:Nat->Prop} {n m:Nat}
theorem KX.refl(ex:Nat->Prop)(n m:Nat)(A:G):KX ex n m A A:=⟨zh.refl _ _,fun _ _ _ h _=>h,fun _ _ _ _ h=>h⟩
theorem KX.trans{A B C:G}(h:KX ex n m A B)(k:KX ex n m B C):KX ex n m A C:=⟨h.kept.trans k.kept (fun _ _ h=>h),fun i o a b c=>k.walk i o a (h.walk i o a b c) c,fun i o a hn b=>k.high i o a hn (h.high i o a hn b)⟩
theorem KX.putObj{W:G}{l:Nat}{o:Obj}(c:Obj)(d:n<=l)(i:l<m)(h:W.1[l]?=z0 o)(f:o.isWalk=false):KX ex n m W (W.putObj l c):=
 ⟨(zh.refl _ _).grown (grownBy_putObj' W l c) (fun k e _=>by cases e;exact .inr d),fun k p g a b=>by
  by_cases e:k=l
  ·subst e;rw[h]at a;cases a;rw[f]at b;cases b
  ·exact(World.putObj_heap_other e).trans a,fun k p g _ a=>(World.putObj_heap_other (show k≠l by omega)).trans a⟩
theorem KX.of_below{A B:G}(h:Below A.1.size A B):KX ex n m A B:=⟨zh.of_below h,fun k o _ a _=>(h.block k (zd a)).trans a,fun k o _ _ a=>(h.block k (zd a)).trans a⟩
theorem KX.setCell{W:G}{g i:Nat}{v:z2}(hn:n<=g)(c:g<m):KX ex n m W (W.setCell (U g i) v):=
 ⟨(zh.refl _ _).setCell (p:=(U g i)) (fun _=> .inr hn) v,fun k o _ a b=>(KeepsOthers.setCell W (U g i) v).same k o a (Obj.not_cells_of_walk b),fun k o d _ a=>(Below.heap_setCell _ _ _ _ (show k≠g by omega)).trans a⟩
theorem KX.wider{m':Nat}{A B:G}(h:KX ex n m A B)(a:m<=m'):KX ex n m' A B:=⟨h.kept,h.walk,fun k o b=>h.high k o (Nat.le_trans a b)⟩
theorem KX.own{q:Nat}{w:G}{β:Type}(p:w.1.size<=q):OwnFrom q (fun(_:β) W=>KX ex n m w W):=fun s X Y l d c i=>
 have b:∀k o,w.1[k]?=z0 o->X.1[k]?=z0 o->Y.1[k]?=z0 o:=fun k o a h=>(c.block k (zd h) (fun e=>by have:=(i k e.symm).1;have:=zd a;omega)).trans h
 ⟨d.kept.trans (g:=fun k=>q<=k) ⟨c.os,c.tape,c.output,c.size,fun k a hn=>c.block k a (fun e=>hn (i k e.symm).1)⟩ (fun k a e=>by omega),fun k o f a j=>b k o a (d.walk k o f a j),fun k o f hn a=>b k o a (d.high k o f hn a)⟩
theorem KX.grown{W i:G}{d:Option Nat}(b:W.grownBy i d)(h:∀r,d=z0 r->(ex r\/n<=r)/\∃c f,W.1[r]?=z0 (.cells c 148 f)):KX ex n m W i:=
 ⟨⟨b.os,b.tape,b.output,b.size,fun k a hn=>b.block k a (fun e=>hn (h k e.symm).1)⟩,
  fun k o _ a j=>(b.block k (zd a) (fun e=>by obtain⟨-,c,f,g⟩:=h k e.symm;rw[g]at a;cases a;cases j)).trans a,
  fun k o _ hn a=>(b.block k (zd a) (fun e=>by obtain⟨-,c,f,g⟩:=h k e.symm;rw[g]at a;cases a;exact hn ⟨_,_,rfl⟩)).trans a⟩
theorem KX.from{A B:G}(h:KX ex n m A B){q:Nat}(d:m<=q):KeepsFrom q A B:=⟨h.kept.size,fun k o c a b=>h.high k o (Nat.le_trans d c) (zol b) a⟩
theorem KX.low{A B:G}(h:KX ex n m A B){k:Nat}(c:k<n)(b:¬ex k)(a:k<A.1.size):B.1[k]?=A.1[k]?:=h.kept.block k a (fun e=>e.elim b (by omega))
end
def vZ{α:Type}(ex:Nat->Prop)(n:Nat)(P:Program)(g:Nat)(lb:Array z2)(encs:α->Array z2)(S:List α->Prop)(N:Nat)(w:G):Prop:=
 ∀m,w.1.size<=m->Yb Fence.wide 6 P g lb encs (KX ex n m) S (fun _=>True) N m w
section
variable {P:Program} {ops:Array Oper} {md:Region.Mode} {w:G} {n:Nat} {l:Nat}
theorem KD{o:Oper}{a:Act}{K:Act->Prop}(h:o.still P a w K):∀c,o.op≠ .defer c:=fun c e=>by
 unfold Oper.still execOp at h
 rw[e]at h
 simp only[Oper.stillUpon]at h
 revert h
 generalize b:(resolve a.eval c o.type).run P w=r
 cases r with
 |ok d w'=>simp[b]
 |halt x w'=>simp[b]
theorem zae{o:Oper}{a:Act}{K:Act->Prop}{d:Act->G->Prop}{Q':Exit->Act->G->Prop}(h:∀a,K a->d a w)(b:o.still P a w K):o.wpIn (Fence.wide.inRound l) n P a w d Q':=by
 have c:=KD b
 unfold Oper.still at b
 unfold Oper.wpIn
 refine⟨fun _ _=>trivial,?_⟩
 rw[Oper.semAt_eq _ _ _ c]
 generalize(execOp a.eval o).run P w=r at*
 cases r with
 |ok k w'=>
  cases k<;>simp only[Oper.stillUpon]at b<;>simp only[Oper.uponIn]
  case enter f args=>
   obtain⟨rfl,v,i,hn⟩:=b
   exact⟨fun e=>by simp[Fence.inRound,Fence.wide]at e,(CallsIn.inRound l (callsIn_wide.2 i)).mono fun e p ⟨j,m⟩=>by subst j;subst m;exact h _ hn⟩
  all_goals(obtain⟨rfl,g⟩:=b;exact h _ g)
 |halt x w'=>simp only[Oper.stillUpon]at b
theorem zbU{i:Nat}{a:Act}{K:Act->Prop}{c:Act->G->Prop}{Q':Exit->Act->G->Prop}(h:∀a,K a->c a w)(b:stOp P ops w i K a):wpOpIn (Fence.wide.inRound l) n P ops Q' i c a w:=by
 unfold stOp at b
 unfold wpOpIn
 split
 ·rename_i ho;simp only[ho]at b;exact h _ b
 ·rename_i o ho
  simp only[ho]at b
  split
  ·rename_i hw;simp only[hw,if_true]at b;exact zae h b
  ·rename_i hw;simp only[hw]at b;exact⟨fun _ _=>trivial,h _ b⟩
theorem XE{k g:Nat}{L:Array Bool->Act->Prop}{Q':Exit->Act->G->Prop}(c:∀b a,L b a->wpAnyIn (Fence.wide.inRound l) n P md ops Q' g b a w):
  ∀(f:Nat) (b:Array Bool) (a:Act),wpAnyL P md ops w k L f b a->wpAnyIn (Fence.wide.inRound l) n P md ops Q' (f+g) b a w
 |0,b,a,h=>by rw[Nat.zero_add];exact c _ _ h
 |f+1,b,a,h=>by
  rw[show f+1+g=(f+g)+1 by omega]
  exact⟨fun j=>absurd j h.1,fun i m=>zbU (fun d e=>XE c f _ d e) (h.2 i m).2⟩
theorem QH{F:Fence}{Q':Exit->Act->G->Prop}:∀(c:List Oper) (k:Nat) (b:Array Bool) (a:Act) (w:G),(∀j,c[j]?=ops[k+j]?)->
  Region.seqB md ops c.length k b=true->wpListIn F n P ops Q' c a w->wpAnyIn F n P md ops Q' c.length b a w
 |[],_,_,_,_,_,d,h=>⟨by simpa[Region.seqB]using d,h⟩
 |o::c,k,b,a,w,l,d,h=>by
  have q:ops[k]?=z0 o:=by simpa using(l 0).symm
  simp only[List.length_cons,Region.seqB,Bool.and_eq_true,decide_eq_true_eq]at d
  refine⟨fun f=>(by rw[d.1]at f;cases f),fun i g=>?_⟩
  rw[d.1]at g
  have e:i=k:=by simpa using g
  subst e
  have r:wpOpIn F n P ops Q' i (wpListIn F n P ops Q' c) a w:=by unfold wpOpIn;simp only[q];exact h
  exact wpOpIn_mono (fun m w' p=>QH c (i+1) _ m w' (fun j=>by have:=l (j+1);simpa[Nat.add_assoc,Nat.add_comm 1 j]using this) d.2 p) r
theorem X5{id:Nat}{Q:Exit->Act->G->Prop}{a:Act}{w:G}{b:List Oper}(k:Nat)(v:P.follows .mixedOrders=true)(p:Region.lexTailB .any b.toArray k=true)
  (h:wpStill P b.toArray w.drew (fun o=>wpListIn (Fence.wide.inRound l) n P b.toArray Q (b.drop k) o w.drew) (b.take k) a):(Code.region id b.toArray true).wpIn (Fence.wide.inRound l) n P Q a w:=by
 simp only[Region.lexTailB,Bool.and_eq_true,decide_eq_true_eq]at p
 obtain⟨⟨⟨⟨i,hn⟩,y⟩,u⟩,f⟩:=p
 have x:k<b.length:=by simpa using hn
 have c:(b.take k).length=k:=by simp;omega
 have e:(b.drop k).length=b.toArray.size-k:=by simp
 have m:HeadInv .any b.toArray k (Array.replicate b.toArray.size false):=
  ⟨by simp,fun j A _ s=>(by rw[getD_replicate_false]at s;cases s),fun t _ z=>getD_in (by simpa using z) (getD_replicate_false _ _)⟩
 have H:=wpAnyL_lex (md:=.any) (g:=b.toArray.size-k) i y u hn (b.take k) 0 _ a (fun j r=>by
  have hj':j<k:=by rw[c]at r;exact r
  simp[hj']) (by simpa using c) m (by rw[c];exact f) h
 refine wpIn_region_any v ?_
 have:=XE (l:=l) (n:=n) (Q':=Q) (g:=b.toArray.size-k) (fun d o q=>by
  have:=QH (F:=Fence.wide.inRound l) (n:=n) (md:=.any) (Q':=Q) (b.drop k) k d o w.drew (fun j=>by simp[List.getElem?_drop]) (by rw[e];exact q.1) q.2
  rwa[e]at this) _ _ _ H
 rw[c,show k+(b.toArray.size-k)=b.toArray.size by omega]at this
 exact this
theorem xK{id:Nat}{Q:Exit->Act->G->Prop}{a:Act}{w:G}{b:List Oper}(k:Nat)(e:P.follows .mixedOrders=true)(d:Region.lexTailB .any b.toArray k=true)
  (h:wpStill P b.toArray w.drew (fun c=>wpList P b.toArray Q (b.drop k) c w.drew) (b.take k) a):(Code.region id b.toArray true).wp P Q a w:=wp_region_still_tail k e d h
end
end Go.Proofs.YtndhpgciopcncaaGreatDoor
