import Derived.Test.YtpbimdkclnekeaaGreatVLater
import Derived.Maps.Keyed
import Derived.Maps.RangeRun
import Derived.RangeFuncOwn
import Derived.RangeFuncNested
import Derived.RangeFuncBound
import Derived.RangeFuncCalls
import Derived.RangeFuncLeaves
import Derived.StillTail
import Derived.StillTactics
import Derived.OrdersIn
import Derived.TacticsIn
open Go renaming World → O
open Option renaming some → U
open Option renaming none → G
open Go renaming Value → z0
open Nat renaming le_refl → z1
open Go.Value (int)
open Go.IntKind (i64)
set_option linter.unusedVariables false
namespace Go.Proofs.YtpbimdkclnekeaaGreat
open Go.RowKit Go.Maps
open Go.ChangeMaps (setBlock modify_eq_set)
structure MK(α β:Type) where
 P:Program
 T:TypeId
 K:TypeId
 E:TypeId
 ke:α->z0
 ve:β->z0
 wf:α->Prop
 z:z0
structure MK.Ok{α β:Type}(M:MK α β):Prop where
 law:Keyed M.P M.K
 und:M.P.underlying M.T=U (.map M.K M.E)
 key:∀a,M.wf a->∃kl,keyOf M.P M.K (M.ke a)=U kl
 inj:∀a b,M.ke a=M.ke b->a=b
 zero:∀w,(zeroValue M.E).run M.P w=.ok M.z w
section
variable {α β:Type}
def zv(L:List (α×β)):List α:=L.map (·.1)
structure vA(M:MK α β)(es:Array MapEntry)(clock:Nat)(L:List (α×β)):Prop where
 kv:es.toList.map (fun e=>(e.key,e.val))=L.map (fun p=>(M.ke p.1,M.ve p.2))
 born:∀e∈es.toList,e.born<clock
 once:(es.toList.map (·.born)).Nodup
 wf:∀p∈L,M.wf p.1
 nodup:(zv L).Nodup
 size:es.size<=maxLen
def xh(M:MK α β)(w:O)(b:Nat)(L:List (α×β)):Prop:=∃c a,w.1[b]?=U (.map c a)/\vA M c a L
variable {M:MK α β}
theorem xh.lt{w:O}{b:Nat}{L:List (α×β)}(h:xh M w b L):b<w.1.size:=by
 obtain⟨d,a,c,_⟩:=h;exact zd c
theorem xh.kept{f:Nat->Prop}{w w':O}{b:Nat}{L:List (α×β)}(h:xh M w b L)(g:zk f w w')(hn:¬f b):xh M w' b L:=by
 obtain⟨c,a,d,e⟩:=h;exact⟨c,a,g.heap d hn,e⟩
theorem xh.later{w w':O}{b:Nat}{L:List (α×β)}(h:xh M w b L)(a:Below w.1.size w w'):xh M w' b L:=
 h.kept (f:=fun _=>False) (zk.of_below a) (fun h=>h)
theorem xh.wf{w:O}{b:Nat}{L:List (α×β)}(h:xh M w b L):∀p∈L,M.wf p.1:=by obtain⟨d,a,e,c⟩:=h;exact c.wf
theorem xh.nodup{w:O}{b:Nat}{L:List (α×β)}(h:xh M w b L):(zv L).Nodup:=by obtain⟨d,a,e,c⟩:=h;exact c.nodup
theorem xh.made(w:O):xh M (w.alloc (.map #[] 0)) w.1.size []:=⟨#[],0,World.alloc_heap_new w _,⟨rfl,by simp,by simp,by simp,by simp[zv],by simp⟩⟩
theorem xh.same{w w':O}{b:Nat}{L:List (α×β)}(h:xh M w b L)(e:w'.1[b]?=w.1[b]?):xh M w' b L:=by
 obtain⟨c,a,d,f⟩:=h;exact⟨c,a,e.trans d,f⟩
theorem vA.keys(ok:M.Ok){c:Array MapEntry}{a:Nat}{L:List (α×β)}(h:vA M c a L):∀e∈c.toList,∃l,keyOf M.P M.K e.key=U l:=fun e d=>by
 have f:(e.key,e.val)∈L.map (fun p=>(M.ke p.1,M.ve p.2)):=h.kv▸List.mem_map.2 ⟨e,d,rfl⟩
 obtain⟨p,g,b⟩:=List.mem_map.1 f
 injection b with b i
 rw[<-b];exact ok.key _ (h.wf p g)
theorem vA.at{c:Array MapEntry}{a:Nat}{L:List (α×β)}(h:vA M c a L){j:Nat}{e:MapEntry}(f:c.toList[j]?=U e):∃p,L[j]?=U p/\e.key=M.ke p.1/\e.val=M.ve p.2:=by
 have b:(c.toList.map (fun e=>(e.key,e.val)))[j]?=U (e.key,e.val):=by simp[f]
 rw[h.kv,List.getElem?_map]at b
 cases d:L[j]? with
 |none=>simp[d]at b
 |some p=>
  rw[d]at b
  simp at b
  exact⟨p,rfl,b.1.symm,b.2.symm⟩
theorem vA.absent{b:Array MapEntry}{a:Nat}{L:List (α×β)}(h:vA M b a L){s:α}(f:∀e∈b.toList,e.key≠M.ke s):s∉zv L:=fun g=>by
 obtain⟨p,i,e⟩:=List.mem_map.1 (show s∈L.map (·.1)from g)
 have c:(M.ke p.1,M.ve p.2)∈b.toList.map (fun e=>(e.key,e.val)):=h.kv▸List.mem_map.2 ⟨p,i,rfl⟩
 obtain⟨x,j,ex⟩:=List.mem_map.1 c
 injection ex with d k
 exact f x j (by rw[d,e])
theorem vA.count{b:Array MapEntry}{a:Nat}{L:List (α×β)}(h:vA M b a L):b.size=L.length:=by
 have:=congrArg List.length h.kv;simpa using this
theorem zii(ok:M.Ok){w:O}{b:Nat}{L:List (α×β)}(h:xh M w b L)(e:TypeId):(Builtin.len_ #[M.T] e #[.map (U b)]).run M.P w=.ok (int i64 L.length) w:=by
 obtain⟨f,a,c,d⟩:=h
 have:=d.count
 simp[Builtin.len_,run_underlying ok.und,MapKept.run_getObj_map c,goInt,Result.andThen,this]
end
section
variable {α β:Type} [DecidableEq α]
def zV(L:List (α×β))(a:α):Option β:=(L.find? (fun p=>decide (p.1=a))).map (·.2)
def qt(L:List (α×β))(a:α)(v:β):List (α×β):=if a∈zv L then L.map (fun p=>if p.1=a then(a,v)else p)else L++[(a,v)]
def xt(L:List (α×β))(a:α):List (α×β):=L.filter (fun p=>decide (p.1≠a))
theorem xB{L:List (α×β)}{a:α}:zV L a=G↔a∉zv L:=by
 unfold zV zv
 rw[Option.map_eq_none_iff,List.find?_eq_none]
 constructor
 ·intro h c
  obtain⟨p,b,e⟩:=List.mem_map.1 c
  exact h p b (by simpa using e)
 ·intro h p b e
  exact h (List.mem_map.2 ⟨p,b,by simpa using e⟩)
theorem zK{L:List (α×β)}{a:α}{v:β}(h:zV L a=U v):(a,v)∈L:=by
 unfold zV at h
 obtain⟨p,b,e⟩:=Option.map_eq_some_iff.1 h
 have c:=List.mem_of_find?_eq_some b
 have d:=List.find?_some b
 have f:p.1=a:=by simpa using d
 subst f;subst e;exact c
theorem xu{L:List (α×β)}(hn:(zv L).Nodup){a:α}{v:β}(h:(a,v)∈L):zV L a=U v:=by
 cases g:zV L a with
 |none=>exact absurd (List.mem_map.2 ⟨_,h,rfl⟩) (xB.1 g)
 |some u=>
  have m:=zK g
  have d:L.Pairwise (fun a b=>a.1≠b.1):=List.pairwise_map.1 hn
  obtain⟨i,k,f⟩:=List.getElem_of_mem m
  obtain⟨j,l,e⟩:=List.getElem_of_mem h
  rcases Nat.lt_trichotomy i j with c|c|c
  ·have:=List.pairwise_iff_getElem.1 d i j k l c;rw[f,e]at this;exact absurd rfl this
  ·subst c;rw[f]at e;cases e;rfl
  ·have:=List.pairwise_iff_getElem.1 d j i l k c;rw[f,e]at this;exact absurd rfl this
theorem xp{L:List (α×β)}{a:α}{v:β}{k:α}:k∈zv (qt L a v)↔k∈zv L\/k=a:=by
 unfold qt
 split
 next h=>
  have e:zv (L.map (fun p=>if p.1=a then(a,v)else p))=zv L:=by
   unfold zv;rw[List.map_map]
   apply List.map_congr_left
   intro p _
   by_cases c:p.1=a<;>simp[c]
  rw[e]
  exact⟨.inl,fun b=>b.elim id (fun e=>e▸h)⟩
 next h=>simp[zv]
theorem zfl{L:List (α×β)}{a:α}{v:β}:zv (qt L a v)=if a∈zv L then zv L else zv L++[a]:=by
 unfold qt
 split
 next h=>
  unfold zv;rw[List.map_map]
  apply List.map_congr_left
  intro p _
  by_cases b:p.1=a<;>simp[b]
 next h=>simp[zv]
theorem qC{L:List (α×β)}{a:α}{v:β}(h:(zv L).Nodup):(zv (qt L a v)).Nodup:=by
 rw[zfl]
 split
 next=>exact h
 next hn=>
  rw[List.nodup_append]
  refine⟨h,by simp,fun x b y c e=>?_⟩
  simp at c
  rw[c]at e;rw[e]at b;exact hn b
theorem yD{L:List (α×β)}{a:α}{v:β}{p:α×β}(h:p∈qt L a v):p=(a,v)\/(p∈L/\p.1≠a):=by
 unfold qt at h
 split at h
 next hin=>
  obtain⟨q,c,e⟩:=List.mem_map.1 h
  by_cases b:q.1=a
  ·rw[if_pos b]at e;exact .inl e.symm
  ·rw[if_neg b]at e;subst e;exact .inr ⟨c,b⟩
 next hn=>
  rcases List.mem_append.1 h with h|h
  ·exact .inr ⟨h,fun e=>hn (List.mem_map.2 ⟨p,h,e⟩)⟩
  ·simp at h;exact .inl h
theorem ja{L:List (α×β)}(hn:(zv L).Nodup)(a:α)(v:β)(k:α):zV (qt L a v) k=if k=a then U v else zV L k:=by
 have c:=qC (a:=a) (v:=v) hn
 split
 next h=>
  subst h
  refine xu c ?_
  unfold qt
  split
  next hin=>
   obtain⟨q,f,e⟩:=List.mem_map.1 hin
   exact List.mem_map.2 ⟨q,f,by rw[if_pos e]⟩
  next=>simp
 next h=>
  cases d:zV L k with
  |none=>exact xB.2 (fun b=>by
   rcases xp.1 b with b|b
   ·exact xB.1 d b
   ·exact h b)
  |some u=>
   refine xu c ?_
   have b:=zK d
   unfold qt
   split
   next=>exact List.mem_map.2 ⟨_,b,by rw[if_neg h]⟩
   next=>exact List.mem_append_left _ b
theorem zZ{L:List (α×β)}{a:α}{p:α×β}:p∈xt L a↔p∈L/\p.1≠a:=by unfold xt;simp
theorem Yg{L:List (α×β)}{a:α}:zv (xt L a)=(zv L).filter (fun k=>decide (k≠a)):=by
 unfold zv xt;rw[List.filter_map];rfl
theorem qr{L:List (α×β)}{a:α}(h:(zv L).Nodup):(zv (xt L a)).Nodup:=by rw[Yg];exact h.filter _
theorem zbQ{L:List (α×β)}(hn:(zv L).Nodup)(a k:α):zV (xt L a) k=if k=a then G else zV L k:=by
 split
 next h=>
  subst h
  exact xB.2 (by rw[Yg];simp)
 next h=>
  cases b:zV L k with
  |none=>exact xB.2 (by rw[Yg];simp;intro c;exact absurd c (xB.1 b))
  |some u=>exact xu (qr hn) (zZ.2 ⟨zK b,h⟩)
theorem kY{L:List (α×β)}{a:α}{v:β}:(qt L a v).length=if a∈zv L then L.length else L.length+1:=by
 unfold qt;split<;>simp
theorem Zk{L:List (α×β)}{a:α}:(xt L a).length<=L.length:=List.length_filter_le _ _
variable {M:MK α β}
def zju(M:MK α β)(c:Bool)(o:Option β):z0:=match o with
 |none=>if c then .tuple #[M.z,.bool false]else M.z
 |some v=>if c then .tuple #[M.ve v,.bool true]else M.ve v
theorem km(ok:M.Ok)(c:Bool){w:O}{b:Nat}{L:List (α×β)}(h:xh M w b L){s:α}(r:M.wf s):
  (Instr.lookup M.T (.map (U b)) (M.ke s) c).run M.P w=.ok (zju M c (zV L s)) w:=by
 obtain⟨m,e,l,d⟩:=h
 obtain⟨u,a⟩:=ok.key s r
 rcases ok.law.find w a m.toList (d.keys ok)with⟨f,g⟩|⟨j,t,f,g,n⟩
 ·have i:zV L s=G:=xB.2 (d.absent g)
  simp[Instr.lookup,run_underlying ok.und,MapKept.run_getObj_map l,ok.law.check w _ a,f,ok.zero w,Result.andThen,zju,i]
 ·obtain⟨p,q,o,hv⟩:=d.at g
  have k:p.1=s:=ok.inj _ _ (o.symm.trans n)
  have i:zV L s=U p.2:=by rw[<-k];exact xu d.nodup (List.mem_of_getElem? q)
  simp[Instr.lookup,run_underlying ok.und,MapKept.run_getObj_map l,ok.law.check w _ a,f,Result.andThen,zju,i,hv]
theorem qd{w:O}{b:Nat}(o:Obj):zk (fun k=>k=b) w (setBlock w b o):=⟨rfl,rfl,rfl,by simp[setBlock],fun k c a=>by
  simp only[setBlock];rw[Array.getElem?_setIfInBounds_ne (fun e=>a e.symm)]⟩
theorem vQ(ok:M.Ok){w:O}{b:Nat}{L:List (α×β)}(h:xh M w b L)(Q:L.length<maxLen){s:α}(R:M.wf s)(v:β):
  ∃o,(Instr.mapUpdate M.T (.map (U b)) (M.ke s) (M.ve v)).run M.P w=.ok () (setBlock w b o)/\xh M (setBlock w b o) b (qt L s v)/\zk (fun k=>k=b) w (setBlock w b o)/\o.isCells=false:=by
 have I:=h.lt
 have A:∀o,(setBlock w b o).1[b]?=U o:=fun o=>by simp[setBlock,I]
 obtain⟨r,f,E,d⟩:=h
 obtain⟨kl,t⟩:=ok.key s R
 rcases ok.law.find w t r.toList (d.keys ok)with⟨H,y⟩|⟨j,z,H,y,X⟩
 ·have hg:s∉zv L:=d.absent y
  refine⟨.map (r.push ⟨M.ke s,M.ve v,f⟩) (f+1),?_,⟨_,_,A _,?_⟩,qd _,rfl⟩
  ·simp[Instr.mapUpdate,run_underlying ok.und,MapKept.run_getObj_map E,ok.law.check w false t,H,MapKept.run_setObj_map _ E,Result.andThen,setBlock]
  ·have l:qt L s v=L++[(s,v)]:=by unfold qt;rw[if_neg hg]
   refine⟨by rw[l];simp[d.kv],?_,?_,?_,qC d.nodup,by have:=d.count;simp;omega⟩
   ·intro x n
    simp at n
    rcases n with n|rfl
    ·have:=d.born x (by simpa using n);omega
    ·simp
   ·rw[Array.toList_push,List.map_append,List.nodup_append]
    refine⟨d.once,by simp,fun a Z c Y=>?_⟩
    simp at Y;subst Y
    obtain⟨x,n,rfl⟩:=List.mem_map.1 Z
    have:=d.born x n;omega
   ·rw[l];intro p l
    rcases List.mem_append.1 l with l|l
    ·exact d.wf p l
    ·simp at l;subst l;exact R
 ·obtain⟨p,l,hk,hv⟩:=d.at y
  have u:p.1=s:=ok.inj _ _ (hk.symm.trans X)
  have hj:r[j]?=U z:=by simpa using y
  have J:s∈zv L:=by unfold zv;exact List.mem_map.2 ⟨p,List.mem_of_getElem? l,u⟩
  have g:(r.modify j (fun F=>{F with key:=M.ke s,val:=M.ve v})).toList=r.toList.set j {z with key:=M.ke s,val:=M.ve v}:=by rw[Array.toList_modify,modify_eq_set _ _ _ _ y]
  refine⟨.map (r.modify j (fun F=>{F with key:=M.ke s,val:=M.ve v})) f,?_,⟨_,_,A _,?_⟩,qd _,rfl⟩
  ·simp[Instr.mapUpdate,run_underlying ok.und,MapKept.run_getObj_map E,ok.law.check w false t,H,hj,X,ok.law.stays w t,MapKept.run_setObj_map _ E,Result.andThen,setBlock]
  ·have C:qt L s v=L.set j (s,v):=by
    unfold qt;rw[if_pos J]
    apply List.ext_getElem?
    intro i
    rw[List.getElem?_map,List.getElem?_set]
    by_cases e:j=i
    ·subst e
     have m:j<L.length:=(List.getElem?_eq_some_iff.1 l).1
     rw[l];simp only[Option.map_some,u,if_true,m]
    ·rw[if_neg e]
     cases hi:L[i]? with
     |none=>simp
     |some q=>
      have K:q.1≠s:=fun W=>by
       have D:L.Pairwise (fun a b=>a.1≠b.1):=List.pairwise_map.1 d.nodup
       obtain⟨B,S⟩:=List.getElem?_eq_some_iff.1 hi
       obtain⟨m,V⟩:=List.getElem?_eq_some_iff.1 l
       rcases Nat.lt_or_gt_of_ne e with h|h
       ·have:=List.pairwise_iff_getElem.1 D j i m B h;rw[S,V]at this;exact this (u.trans W.symm)
       ·have:=List.pairwise_iff_getElem.1 D i j B m h;rw[S,V]at this;exact this (W.trans u.symm)
      simp[K]
   refine⟨?_,?_,?_,?_,qC d.nodup,by simpa using d.size⟩
   ·rw[g,C,List.map_set,List.map_set,d.kv]
   ·intro x n
    rw[g]at n
    rcases List.mem_or_eq_of_mem_set n with n|rfl
    ·exact d.born x n
    ·exact d.born z (List.mem_of_getElem? y)
   ·rw[g,List.map_set]
    have:(r.toList.map (·.born)).set j z.born=r.toList.map (·.born):=by
     apply List.ext_getElem?
     intro i
     rw[List.getElem?_set]
     by_cases e:j=i
     ·subst e
      have m:j<r.toList.length:=(List.getElem?_eq_some_iff.1 y).1
      simp only[List.length_map,m,if_true,List.getElem?_map,y,Option.map_some]
     ·rw[if_neg e]
    show((r.toList.map (·.born)).set j z.born).Nodup
    rw[this];exact d.once
   ·intro q N
    rcases yD N with rfl|⟨N,_⟩
    ·exact R
    ·exact d.wf q N
theorem QF(ok:M.Ok){w:O}{b:Nat}{L:List (α×β)}{k:Array MapEntry}{c:Nat}(E:w.1[b]?=U (.map k c))(g:vA M k c L){s:α}(hs:M.wf s)(ty:TypeId):
  ∃n,(Builtin.delete_ #[M.T,M.K] ty #[.map (U b),M.ke s]).run M.P w=.ok (.tuple #[]) (setBlock w b (.map n c))/\vA M n c (xt L s)/\(∀e,e∈n.toList↔e∈k.toList/\e.key≠M.ke s):=by
 obtain⟨kl,o⟩:=ok.key s hs
 rcases ok.law.find w o k.toList (g.keys ok)with⟨H,v⟩|⟨j,e0,H,v,S⟩
 ·have Y:s∉zv L:=g.absent v
  have I:xt L s=L:=by
   unfold xt;rw[List.filter_eq_self]
   intro p B;simp;intro e;exact Y (List.mem_map.2 ⟨p,B,e⟩)
  refine⟨k,?_,by rw[I];exact g,fun e=>⟨fun h=>⟨h,v e h⟩,fun h=>h.1⟩⟩
  simp[Builtin.delete_,run_underlying ok.und,MapKept.run_getObj_map E,ok.law.check w _ o,H,MapKept.run_setObj_map _ E,Result.andThen,setBlock]
 ·obtain⟨p,B,hk,hv⟩:=g.at v
  have t:p.1=s:=ok.inj _ _ (hk.symm.trans S)
  have J:j<k.toList.length:=(List.getElem?_eq_some_iff.1 v).1
  have N:j<k.size:=by simpa using J
  have f:(k.eraseIdxIfInBounds j).toList=k.toList.eraseIdx j:=by
   unfold Array.eraseIdxIfInBounds
   rw[dif_pos N]
   simp
  have C:L.Pairwise (fun a b=>a.1≠b.1):=List.pairwise_map.1 g.nodup
  have z:j<L.length:=(List.getElem?_eq_some_iff.1 B).1
  have d:∀i q,L[i]?=U q->i≠j->q.1≠s:=fun i q l r R=>by
   obtain⟨y,u⟩:=List.getElem?_eq_some_iff.1 l
   obtain⟨_,D⟩:=List.getElem?_eq_some_iff.1 B
   rcases Nat.lt_or_gt_of_ne r with h|h
   ·have:=List.pairwise_iff_getElem.1 C i j y z h;rw[u,D]at this;exact this (R.trans t.symm)
   ·have:=List.pairwise_iff_getElem.1 C j i z y h;rw[u,D]at this;exact this (t.trans R.symm)
  have I:xt L s=L.eraseIdx j:=by
   have W:L=L.take j++p::L.drop (j+1):=by
    obtain⟨A,D⟩:=List.getElem?_eq_some_iff.1 B
    rw[<-D,<-List.drop_eq_getElem_cons A];exact(List.take_append_drop j L).symm
   have t1:∀q∈L.take j,q.1≠s:=fun q m=>by
    obtain⟨i,l,u⟩:=List.getElem_of_mem m
    have Z:i<j:=by simp at l;omega
    exact d i q (by rw[<-u];simp[List.getElem_take]) (by omega)
   have t2:∀q∈L.drop (j+1),q.1≠s:=fun q m=>by
    obtain⟨i,l,u⟩:=List.getElem_of_mem m
    exact d (j+1+i) q (by rw[<-u];simp at l ⊢) (by omega)
   rw[List.eraseIdx_eq_take_drop_succ]
   unfold xt
   conv=>lhs;rw[W]
   rw[List.filter_append,List.filter_cons_of_neg (by simp[t]),List.filter_eq_self.2 (fun q m=>by simpa using t1 q m),List.filter_eq_self.2 (fun q m=>by simpa using t2 q m)]
  refine⟨k.eraseIdxIfInBounds j,?_,⟨?_,?_,?_,?_,qr g.nodup,?_⟩,?_⟩
  ·simp[Builtin.delete_,run_underlying ok.und,MapKept.run_getObj_map E,ok.law.check w _ o,H,MapKept.run_setObj_map _ E,Result.andThen,setBlock]
  ·rw[f,I,Go.ChangeMaps.map_eraseIdx,Go.ChangeMaps.map_eraseIdx,g.kv]
  ·intro x V;rw[f]at V;exact g.born x ((List.eraseIdx_sublist _ _).subset V)
  ·rw[f];exact g.once.sublist ((List.eraseIdx_sublist _ _).map _)
  ·intro q m;exact g.wf q (zZ.1 m).1
  ·have:=MapFrom.size_erase k j;have:=g.size;omega
  ·intro e
   rw[f]
   constructor
   ·intro h
    refine⟨(List.eraseIdx_sublist _ _).subset h,fun F=>?_⟩
    obtain⟨i,r,l⟩:=List.mem_eraseIdx_iff_getElem?.1 h
    obtain⟨q,m,Q,_⟩:=g.at l
    exact d i q m r (ok.inj _ _ (Q.symm.trans F))
   ·rintro⟨h,F⟩
    obtain⟨i,l⟩:=List.mem_iff_getElem?.1 h
    refine List.mem_eraseIdx_iff_getElem?.2 ⟨i,fun X=>?_,l⟩
    subst X
    rw[v]at l
    cases l
    exact F S
end
end Go.Proofs.YtpbimdkclnekeaaGreat
namespace Go.Proofs.YtpbimdkclnekeaaGreat
open Go.RowKit
def YK{α:Type}(F:Fence)(n:Nat)(P:Program)(g:Nat)(lb:Array z0)(encs:α->Array z0)(Kp:O->O->Prop)(S d:List α->Prop)(N m:Nat)(w:O):Prop:=
 ∀(l:Nat) (J c:List α->O->Prop) (W:O),Below w.1.size w W->m<=W.1.size->OwnFrom W.1.size J->OwnFrom W.1.size c->
  (∀a x V,J a V->a.length<N->YieldAt F (n-1) P l (encs x) V fun e b=>(e=.returned (.bool true)/\J (a++[x]) b/\Kp V b)\/(e=.returned (.bool false)/\c (a++[x]) b/\Kp V b))->
  J [] W->CallsIn F n P g (#[.func (.yield l) #[] #[]]++lb) W fun e V=>(∃v,e=.returned v)/\((∃xs,S xs/\J xs V)\/∃a,d a/\c a V)
theorem Kv{β:Type}{B:Nat}{J:β->O->Prop}(h:OwnFrom B J):AbidesFrom B J:=fun s W a row i f g=>
 h s W a row i f (fun r e=>by obtain⟨b,o,c,d⟩:=g r e;exact⟨b,o,c,Obj.not_cells_of_walk d⟩)
theorem YK.of{α:Type}{F:Fence}{n:Nat}{P:Program}{g:Nat}{lb:Array z0}{encs:α->Array z0}{Kp:O->O->Prop}{S f:List α->Prop}{N m:Nat}{w:O}(h:SeqStopsK F n P g lb encs Kp S f N w):YK F n P g lb encs Kp S f N m w:=
 fun l J i W o _ k c p j=>h l J i W o (Kv k) (Kv c) (fun d x V hv r=>(p d x V hv r).mono fun e s q=>q.imp id (fun⟨a,b,_⟩=>⟨a,b⟩)) j
theorem YK.keeps{α:Type}{F:Fence}{n:Nat}{P:Program}{g:Nat}{lb:Array z0}{encs:α->Array z0}{Kp i:O->O->Prop}{S j:List α->Prop}{N m:Nat}{w:O}(h:YK F n P g lb encs Kp S j N m w)(k:∀A B,i A B->Kp A B):YK F n P g lb encs i S j N m w:=
 fun l J o W r v q d s p=>h l J o W r v q d (fun f x V hv u=>(s f x V hv u).mono fun e y t=>t.imp (fun⟨a,b,c⟩=>⟨a,b,k _ _ c⟩) (fun⟨a,b,c⟩=>⟨a,b,k _ _ c⟩)) p
theorem YK.inRound{α:Type}{F:Fence}{n:Nat}{P:Program}{g:Nat}{lb:Array z0}{encs:α->Array z0}{Kp:O->O->Prop}{S a:List α->Prop}{N m:Nat}{w:O}(l:Nat)(h:YK F n P g lb encs Kp S a N m w):YK (F.inRound l) n P g lb encs Kp S a N m w:=h
def Vt{α:Type}(B:Nat)(Kp:O->O->Prop)(I:List α->O->Prop)(b:Code->List α->O->Prop)(xs:List α)(W:O)(e:Exit)(_:Act)(a:O):Prop:=
 KeepsFrom B W a/\Kp W a/\match e with
 | .normal=>I xs a
 | .ret=>b .ret xs a
 | .exit id=>b (.exit id) xs a
 | .goto t=>b (.goto t) xs a
 | .panic _=>False
 | .outgrown=>False
theorem jV{W a:O}{row:Option Nat}{B k:Nat}{o:Obj}(b:W.grownBy a row)(c:∀r,row=U r->B<=r)(d:k<B)(h:W.1[k]?=U o):a.1[k]?=U o:=
 (b.block k (zd h) (fun e=>by have:=c k e.symm;omega)).trans h
section
variable {α:Type} {F:Fence} {n:Nat} {P:Program} {ps:Array Tmp} {assign body:Code} {encs:α->Array z0} {Kp:O->O->Prop} {N:Nat}
theorem zgh(B l fn h:Nat)(tmps:Array z0)(hF:F.fn fn)(i:B<=l)(a6:∀x,(encs x).size=ps.size)(E:O->Prop)(hE:∀W q,E W->KeepsFrom B W q->E q)(u:∀W o,E W->E (W.putObj l o))
  (w:∀{X Y Z:O},Kp X Y->Kp Y Z->Kp X Z) (C:∀(W:O) (o M:Obj),W.1[l]?=U o->o.isCells=false->o.isWalk=false->Kp W (W.putObj l M))
  (I:List α->O->Prop) (A:Code->List α->O->Prop) (hI:OwnFrom B I) (T:∀c,OwnFrom B (A c)) (Q:α->Act->O->Prop) (S:∀x a',OwnFrom B (fun(_:Unit) W=>Q x a' W))
  (k:∀(a:List α) (x:α) (W:O) (K:Act->O->Prop),I a W->(∀a' q,KeepsFrom B W q->Kp W q->I a q->Q x a' q->K a' q)->
   assign.wpIn (F.inRound l) n P (Exit.then K (fun _ _ _=>False)) {tmps:=(ps.zip (encs x)).foldl (fun t (p,v)=>t.setIfInBounds p v) tmps,defers:=[]} W)
  (y:∀(a:List α) (x:α) (a':Act) (W:O),(∃r:Loop,W.1[l]?=U (.loop r)/\r.defers=h)->I a W->Q x a' W->a.length<N->body.wpIn (F.inRound l) n P (Vt B Kp I A (a++[x]) W) a' W)
  (a:List α) (x:α) (W:O) (hi:I a W) (hl:W.1[l]?=U (.loop {state:=.ready,pending:=G,fn,tmps,params:=ps,assign,body,defers:=h})) (he:E W) (H:a.length<N):
  YieldAt F n P l (encs x) W fun e V=>(e=.returned (.bool true)/\(I (a++[x]) V/\V.1[l]?=U (.loop {state:=.ready,pending:=G,fn,tmps,params:=ps,assign,body,defers:=h})/\E V)/\Kp W V)\/
   (e=.returned (.bool false)/\(∃c,A c (a++[x]) V/\V.1[l]?=U (.loop {state:=.done,pending:=U c,fn,tmps,params:=ps,assign,body,defers:=h})/\E V)/\Kp W V):=by
 refine⟨fn,_,assign,body,run_yield (P:=P) (args:=encs x) hl (a6 x),roundIn_of_wpIn hF (k a x W _ hi fun a' X D a5 a4 a0=>?_)⟩
 have j:=D.same l _ i hl rfl
 have a1:=hE _ _ he D
 refine⟨_,run_beginRound j rfl,wpIn_mono (y a x a' _ ⟨_,World.putObj_heap_same (zd j),rfl⟩ (hI.putObj _ a4 i j rfl) ((S x a').putObj (s:=()) _ a0 i j rfl) H) ?_⟩
 have hb:=World.putObj_heap_same (o:=.loop {state:=.busy,pending:=G,fn,tmps,params:=ps,assign,body,defers:=h}) (zd j)
 have b:∀V,KeepsFrom B (X.putObj l (.loop {state:=.busy,pending:=G,fn,tmps,params:=ps,assign,body,defers:=h})) V->V.1[l]?=U (.loop {state:=.busy,pending:=G,fn,tmps,params:=ps,assign,body,defers:=h})/\E V:=
  fun V f=>⟨f.same l _ i hb rfl,hE _ _ (u _ _ a1) f⟩
 have g:∀c V,KeepsFrom B (X.putObj l (.loop {state:=.busy,pending:=G,fn,tmps,params:=ps,assign,body,defers:=h})) V->A c (a++[x]) V->
   A c (a++[x]) (V.putObj l (.loop {state:=.done,pending:=U c,fn,tmps,params:=ps,assign,body,defers:=h}))/\(V.putObj l (.loop {state:=.done,pending:=U c,fn,tmps,params:=ps,assign,body,defers:=h})).1[l]?=U (.loop {state:=.done,pending:=U c,fn,tmps,params:=ps,assign,body,defers:=h})/\E (V.putObj l (.loop {state:=.done,pending:=U c,fn,tmps,params:=ps,assign,body,defers:=h})):=fun c V f z=>by
  obtain⟨m,R⟩:=b V f
  exact⟨(T c).putObj _ z i m rfl,World.putObj_heap_same (zd m),u _ _ R⟩
 have L:∀V M,Kp (X.putObj l (.loop {state:=.busy,pending:=G,fn,tmps,params:=ps,assign,body,defers:=h})) V->V.1[l]?=U (.loop {state:=.busy,pending:=G,fn,tmps,params:=ps,assign,body,defers:=h})->Kp W (V.putObj l M):=fun V M d m=>w a5 (w (w (C _ _ _ j rfl rfl) d) (C _ _ _ m rfl rfl))
 intro e a3 V J
 match e,J with
 | .normal,⟨f,d,a2⟩=>
  obtain⟨m,R⟩:=b V f
  exact⟨_,_,run_endRound (P:=P) G m,.inl ⟨rfl,⟨hI.putObj _ a2 i m rfl,World.putObj_heap_same (zd m),u _ _ R⟩,L V _ d m⟩⟩
 | .ret,⟨f,d,z⟩=>exact⟨_,_,run_endRound (P:=P) (U .ret) (b V f).1,.inr ⟨rfl,⟨.ret,g .ret V f z⟩,L V _ d (b V f).1⟩⟩
 | .exit id,⟨f,d,z⟩=>exact⟨_,_,run_endRound (P:=P) (U (.exit id)) (b V f).1,.inr ⟨rfl,⟨.exit id,g (.exit id) V f z⟩,L V _ d (b V f).1⟩⟩
 | .goto t,⟨f,d,z⟩=>exact⟨_,_,run_endRound (P:=P) (U (.goto t)) (b V f).1,.inr ⟨rfl,⟨.goto t,g (.goto t) V f z⟩,L V _ d (b V f).1⟩⟩
 | .panic ch,J=>exact J.2.2.elim
 | .outgrown,J=>exact J.2.2.elim
end
section
variable {α:Type} {F:Fence} {n:Nat} {P:Program} {g:Operand} {ps:Array Tmp} {assign body:Code} {Q:Exit->Act->O->Prop} {a:Act} {w:O}
theorem yG(a7:F.round=G)(h1:1<=n){gf:Nat}{lb:Array z0}(hg:a.eval g=.func (.func gf) #[] lb)(a1:F.fn gf)(eg:∀args w,(callFunc gf args).run P w=.ok (.enter gf args) w)
  {encs:α->Array z0} {Kp:O->O->Prop} {S Sp:List α->Prop} {N m:Nat} {w0:O} (M:YK F (n-1) P gf lb encs Kp S Sp N m w0) (hm:m<=w.1.size+2)
  (a4:∀{X Y Z:O},Kp X Y->Kp Y Z->Kp X Z) (a3:∀(W:O) (o o':Obj),W.1[w.1.size+1]?=U o->o.isCells=false->o.isWalk=false->Kp W (W.putObj (w.1.size+1) o')) (E:Below w0.1.size w0 w) (a6:∀x,(encs x).size=ps.size)
  (I:List α->O->Prop) (B:Code->List α->O->Prop) (C:OwnFrom w.1.size I) (j:∀c,OwnFrom w.1.size (B c)) (h0:I [] w) (Ax:α->Act->O->Prop) (a0:∀x a',OwnFrom w.1.size (fun(_:Unit) W=>Ax x a' W))
  (f:∀(l:Nat) (b:List α) (x:α) (W:O) (K:Act->O->Prop),I b W->(∀a' A,KeepsFrom w.1.size W A->Kp W A->I b A->Ax x a' A->K a' A)->
   assign.wpIn (F.inRound l) (n-1-1) P (Exit.then K (fun _ _ _=>False)) {tmps:=(ps.zip (encs x)).foldl (fun t (p,v)=>t.setIfInBounds p v) a.tmps,defers:=[]} W)
  (q:∀(l:Nat) (b:List α) (x:α) (a':Act) (W:O),w.1.size<=l->(∃r,W.1[l]?=U (.loop r))->I b W->Ax x a' W->b.length<N->body.wpIn (F.inRound l) (n-1-1) P (Vt w.1.size Kp I B (b++[x]) W) a' W)
  (u:∀(D:Nat) (xs:List α) (W:O),w.1.size<=D->S xs->I xs W->W.1[D]?=U (.deferred (U []))->Q .normal {a with defers:={target:=.collected D,args:=#[]}::a.defers} W)
  (y:∀(D:Nat) (c:Code) (b:List α) (W:O),w.1.size<=D->Sp b->B c b W->W.1[D]?=U (.deferred (U []))->c.wpIn F n P Q {a with defers:={target:=.collected D,args:=#[]}::a.defers} W):
  (Code.rangeFunc g ps assign body).wpIn F n P Q a w:=by
 refine wpIn_rangeFunc fun fn a5=>?_
 rw[a7]
 have hz:((w.alloc (.deferred (U []))).alloc (.loop {state:=.ready,pending:=G,fn,tmps:=a.tmps,params:=ps,assign,body,defers:=w.1.size})).1.size=w.1.size+2:=by simp
 refine⟨w.1.size+1,[{target:=.collected w.1.size,args:=#[]}],((w.alloc (.deferred (U []))).alloc (.loop {state:=.ready,pending:=G,fn,tmps:=a.tmps,params:=ps,assign,body,defers:=w.1.size})),{target:=.fn (.func gf) lb,args:=#[.func (.yield (w.1.size+1)) #[] #[]]},((w.alloc (.deferred (U []))).alloc (.loop {state:=.ready,pending:=G,fn,tmps:=a.tmps,params:=ps,assign,body,defers:=w.1.size})),gf,#[.func (.yield (w.1.size+1)) #[] #[]]++lb,((w.alloc (.deferred (U []))).alloc (.loop {state:=.ready,pending:=G,fn,tmps:=a.tmps,params:=ps,assign,body,defers:=w.1.size})),run_enterLoop_outer fn a.tmps ps assign body,by simp only[resolve,hg];simp[go_sem],fun f' H=>by simp[Target.leads]at H;subst H;exact a1,by simp[invoke,go_sem,eg],fun _=>h1,?_⟩
 have hD:((w.alloc (.deferred (U []))).alloc (.loop {state:=.ready,pending:=G,fn,tmps:=a.tmps,params:=ps,assign,body,defers:=w.1.size})).1[w.1.size]?=U (.deferred (U [])):=(Below.heap_alloc _ _ _ (by simp)).trans (World.alloc_heap_new w _)
 have hL:((w.alloc (.deferred (U []))).alloc (.loop {state:=.ready,pending:=G,fn,tmps:=a.tmps,params:=ps,assign,body,defers:=w.1.size})).1[w.1.size+1]?=U (.loop {state:=.ready,pending:=G,fn,tmps:=a.tmps,params:=ps,assign,body,defers:=w.1.size}):=by
  have:=World.alloc_heap_new (w.alloc (.deferred (U []))) (.loop {state:=.ready,pending:=G,fn,tmps:=a.tmps,params:=ps,assign,body,defers:=w.1.size});rwa[World.size_alloc]at this
 have hB:Below w0.1.size w0 ((w.alloc (.deferred (U []))).alloc (.loop {state:=.ready,pending:=G,fn,tmps:=a.tmps,params:=ps,assign,body,defers:=w.1.size})):=E.trans ((((Below.refl _ w).alloc (z1 _) _).alloc (by simp) _).mono E.size)
 have a2:=C.alloc (.loop {state:=.ready,pending:=G,fn,tmps:=a.tmps,params:=ps,assign,body,defers:=w.1.size}) (C.alloc (.deferred (U [])) h0)
 generalize((w.alloc (.deferred (U []))).alloc (.loop {state:=.ready,pending:=G,fn,tmps:=a.tmps,params:=ps,assign,body,defers:=w.1.size}))=W1 at*
 refine(M (w.1.size+1)
  (fun b W=>I b W/\W.1[w.1.size+1]?=U (.loop {state:=.ready,pending:=G,fn,tmps:=a.tmps,params:=ps,assign,body,defers:=w.1.size})/\W.1[w.1.size]?=U (.deferred (U [])))
  (fun b W=>∃c,B c b W/\W.1[w.1.size+1]?=U (.loop {state:=.done,pending:=U c,fn,tmps:=a.tmps,params:=ps,assign,body,defers:=w.1.size})/\W.1[w.1.size]?=U (.deferred (U [])))
  W1 hB (by omega) (fun s X Y row L d i=>⟨C s X Y row L.1 d (fun r e=>⟨by have:=(i r e).1;omega,(i r e).2⟩),jV d (fun r e=>(i r e).1) (by omega) L.2.1,jV d (fun r e=>(i r e).1) (by omega) L.2.2⟩)
  (fun s X Y row L d i=>by
   obtain⟨c,R,z,T⟩:=L
   exact⟨c,j c s X Y row R d (fun r e=>⟨by have:=(i r e).1;omega,(i r e).2⟩),jV d (fun r e=>(i r e).1) (by omega) z,jV d (fun r e=>(i r e).1) (by omega) T⟩)
  (fun b x V hv J=>?_) ⟨a2,hL,hD⟩).mono ?_
 ·obtain⟨v1,v2,v3⟩:=hv
  exact zgh (P:=P) (Kp:=Kp) (n:=n-1-1) w.1.size (w.1.size+1) fn w.1.size a.tmps a5 (by omega) a6 (fun W=>W.1[w.1.size]?=U (.deferred (U []))) (fun W A he hk=>hk.same _ _ (z1 _) he rfl) (fun W o he=>(World.putObj_heap_other (by omega)).trans he)
   (fun h k=>a4 h k) (fun W o o'=>a3 W o o') I B C j Ax a0 (fun b x W K=>f _ b x W K) (fun b x a' W ⟨r,i,_⟩=>q _ b x a' W (by omega) ⟨r,i⟩) b x V v1 v2 v3 J
 ·rintro e V ⟨⟨v,rfl⟩,(⟨xs,hS,R,z,T⟩|⟨b,hS,c,R,z,T⟩)⟩
  ·exact⟨G,_,run_endLoop (P:=P) z (by simp),u _ xs _ (z1 _) hS (C.putObj _ R (by omega) z rfl) ((World.putObj_heap_other (by omega)).trans T)⟩
  ·exact⟨U c,_,run_endLoop (P:=P) z (by simp),y _ c b _ (z1 _) hS ((j c).putObj _ R (by omega) z rfl) ((World.putObj_heap_other (by omega)).trans T)⟩
theorem zie{l₀:Nat}{r₀:Loop}(a8:F.round=U l₀)(a6:w.1[l₀]?=U (.loop r₀))(h1:1<=n){gf:Nat}{lb:Array z0}(hg:a.eval g=.func (.func gf) #[] lb)(a1:F.fn gf)(eg:∀args w,(callFunc gf args).run P w=.ok (.enter gf args) w)
  {encs:α->Array z0} {Kp:O->O->Prop} {S Sp:List α->Prop} {N m:Nat} {L:O} (J:YK F (n-1) P gf lb encs Kp S Sp N m L) (hm:m<=w.1.size+1)
  (a4:∀{X Y Z:O},Kp X Y->Kp Y Z->Kp X Z) (a3:∀(W:O) (o o':Obj),W.1[w.1.size]?=U o->o.isCells=false->o.isWalk=false->Kp W (W.putObj w.1.size o')) (D:Below L.1.size L w) (a7:∀x,(encs x).size=ps.size)
  (I:List α->O->Prop) (B:Code->List α->O->Prop) (R:OwnFrom w.1.size I) (u:∀c,OwnFrom w.1.size (B c)) (h0:I [] w) (M:α->Act->O->Prop) (a0:∀x a',OwnFrom w.1.size (fun(_:Unit) W=>M x a' W))
  (d:∀(l:Nat) (b:List α) (x:α) (W:O) (K:Act->O->Prop),I b W->(∀a' C,KeepsFrom w.1.size W C->Kp W C->I b C->M x a' C->K a' C)->
   assign.wpIn (F.inRound l) (n-1-1) P (Exit.then K (fun _ _ _=>False)) {tmps:=(ps.zip (encs x)).foldl (fun t (p,v)=>t.setIfInBounds p v) a.tmps,defers:=[]} W)
  (y:∀(l:Nat) (b:List α) (x:α) (a':Act) (W:O),w.1.size<=l->(∃r,W.1[l]?=U (.loop r))->I b W->M x a' W->b.length<N->body.wpIn (F.inRound l) (n-1-1) P (Vt w.1.size Kp I B (b++[x]) W) a' W)
  (z:∀(xs:List α) (W:O),S xs->I xs W->Q .normal a W)
  (A:∀(c:Code) (b:List α) (W:O),Sp b->B c b W->c.wpIn F n P Q a W):
  (Code.rangeFunc g ps assign body).wpIn F n P Q a w:=by
 refine wpIn_rangeFunc fun fn a5=>?_
 rw[a8]
 have hz:(w.alloc (.loop {state:=.ready,pending:=G,fn,tmps:=a.tmps,params:=ps,assign,body,defers:=r₀.defers})).1.size=w.1.size+1:=by simp
 refine⟨w.1.size,[],(w.alloc (.loop {state:=.ready,pending:=G,fn,tmps:=a.tmps,params:=ps,assign,body,defers:=r₀.defers})),{target:=.fn (.func gf) lb,args:=#[.func (.yield w.1.size) #[] #[]]},(w.alloc (.loop {state:=.ready,pending:=G,fn,tmps:=a.tmps,params:=ps,assign,body,defers:=r₀.defers})),gf,#[.func (.yield w.1.size) #[] #[]]++lb,(w.alloc (.loop {state:=.ready,pending:=G,fn,tmps:=a.tmps,params:=ps,assign,body,defers:=r₀.defers})),run_enterLoop_inner a6 fn a.tmps ps assign body,by simp only[resolve,hg];simp[go_sem],fun f' E=>by simp[Target.leads]at E;subst E;exact a1,by simp[invoke,go_sem,eg],fun _=>h1,?_⟩
 have hL:(w.alloc (.loop {state:=.ready,pending:=G,fn,tmps:=a.tmps,params:=ps,assign,body,defers:=r₀.defers})).1[w.1.size]?=U (.loop {state:=.ready,pending:=G,fn,tmps:=a.tmps,params:=ps,assign,body,defers:=r₀.defers}):=World.alloc_heap_new w _
 have hB:Below L.1.size L (w.alloc (.loop {state:=.ready,pending:=G,fn,tmps:=a.tmps,params:=ps,assign,body,defers:=r₀.defers})):=D.trans (((Below.refl _ w).alloc (z1 _) _).mono D.size)
 have a2:=R.alloc (.loop {state:=.ready,pending:=G,fn,tmps:=a.tmps,params:=ps,assign,body,defers:=r₀.defers}) h0
 generalize(w.alloc (.loop {state:=.ready,pending:=G,fn,tmps:=a.tmps,params:=ps,assign,body,defers:=r₀.defers}))=W1 at*
 refine(J w.1.size
  (fun b W=>I b W/\W.1[w.1.size]?=U (.loop {state:=.ready,pending:=G,fn,tmps:=a.tmps,params:=ps,assign,body,defers:=r₀.defers}))
  (fun b W=>∃c,B c b W/\W.1[w.1.size]?=U (.loop {state:=.done,pending:=U c,fn,tmps:=a.tmps,params:=ps,assign,body,defers:=r₀.defers}))
  W1 hB (by omega) (fun s X Y row T f j=>⟨R s X Y row T.1 f (fun r e=>⟨by have:=(j r e).1;omega,(j r e).2⟩),jV f (fun r e=>(j r e).1) (by omega) T.2⟩)
  (fun s X Y row T f j=>by
   obtain⟨c,q,i⟩:=T
   exact⟨c,u c s X Y row q f (fun r e=>⟨by have:=(j r e).1;omega,(j r e).2⟩),jV f (fun r e=>(j r e).1) (by omega) i⟩)
  (fun b x V hv H=>?_) ⟨a2,hL⟩).mono ?_
 ·obtain⟨v1,v2⟩:=hv
  refine(zgh (P:=P) (Kp:=Kp) (n:=n-1-1) w.1.size w.1.size fn r₀.defers a.tmps a5 (z1 _) a7 (fun _=>True) (fun _ _ _ _=>trivial) (fun _ _ _=>trivial)
   (fun h k=>a4 h k) (fun W o o'=>a3 W o o') I B R u M a0 (fun b x W K=>d _ b x W K) (fun b x a' W ⟨r,j,_⟩=>y _ b x a' W (z1 _) ⟨r,j⟩) b x V v1 v2 trivial H).mono ?_
  rintro e V' (⟨e1,⟨q,i,_⟩,k3⟩|⟨e1,⟨c,q,i,_⟩,k3⟩)
  ·exact .inl ⟨e1,⟨q,i⟩,k3⟩
  ·exact .inr ⟨e1,⟨c,q,i⟩,k3⟩
 ·rintro e V ⟨⟨v,rfl⟩,(⟨xs,hS,q,i⟩|⟨b,hS,c,q,i⟩)⟩
  ·exact⟨G,_,run_endLoop (P:=P) i (by simp),z xs _ hS (R.putObj _ q (z1 _) i rfl)⟩
  ·exact⟨U c,_,run_endLoop (P:=P) i (by simp),A c b _ hS ((u c).putObj _ q (z1 _) i rfl)⟩
end
theorem kP{F:Fence}(f:F.depth=G){m m':Nat}{P:Program}{l:Nat}{args:Array z0}{W:O}{R:Ending->O->Prop}(h:YieldAt F m P l args W R):YieldAt F m' P l args W R:=by
 obtain⟨fn,tmps,assign,body,g,a,b⟩:=h
 exact⟨fn,tmps,assign,body,g,a,fun c cs _=>b c cs (fun d e=>by rw[f]at e;cases e)⟩
structure KX(ex:Nat->Prop)(n m:Nat)(A B:O):Prop where
 kept:zk (fun k=>ex k\/n<=k) A B
 walk:∀k o,¬ex k->A.1[k]?=U o->o.isWalk=true->B.1[k]?=U o
 high:∀k o,m<=k->A.1[k]?=U o->B.1[k]?=U o
section
variable {ex:Nat->Prop} {n m:Nat}
theorem KX.refl(ex:Nat->Prop)(n m:Nat)(A:O):KX ex n m A A:=⟨zk.refl _ _,fun _ _ _ h _=>h,fun _ _ _ h=>h⟩
theorem KX.trans{A B C:O}(h:KX ex n m A B)(k:KX ex n m B C):KX ex n m A C:=⟨h.kept.trans k.kept (fun _ _ h=>h),fun i o a b c=>k.walk i o a (h.walk i o a b c) c,fun i o a b=>k.high i o a (h.high i o a b)⟩
theorem KX.putObj{W:O}{l:Nat}{o:Obj}(c:Obj)(d:n<=l)(i:l<m)(h:W.1[l]?=U o)(f:o.isWalk=false):KX ex n m W (W.putObj l c):=
 ⟨(zk.refl _ _).grown (grownBy_putObj' W l c) (fun k e _=>by cases e;exact .inr d),fun k p g a b=>by
  by_cases e:k=l
  ·subst e;rw[h]at a;cases a;rw[f]at b;cases b
  ·exact(World.putObj_heap_other e).trans a,fun k p g a=>(World.putObj_heap_other (show k≠l by omega)).trans a⟩
theorem KX.of_below{A B:O}(h:Below A.1.size A B):KX ex n m A B:=⟨zk.of_below h,fun k o _ a _=>(h.block k (zd a)).trans a,fun k o _ a=>(h.block k (zd a)).trans a⟩
theorem KX.setCell{W:O}{g i:Nat}{v:z0}(hn:n<=g)(c:g<m):KX ex n m W (W.setCell ⟨g,i,G⟩ v):=
 ⟨(zk.refl _ _).setCell (p:=⟨g,i,G⟩) (fun _=> .inr hn) v,fun k o _ a b=>(KeepsOthers.setCell W ⟨g,i,G⟩ v).same k o a (Obj.not_cells_of_walk b),fun k o d a=>(Below.heap_setCell _ _ _ _ (show k≠g by omega)).trans a⟩
theorem KX.wider{m':Nat}{A B:O}(h:KX ex n m A B)(a:m<=m'):KX ex n m' A B:=⟨h.kept,h.walk,fun k o b=>h.high k o (Nat.le_trans a b)⟩
theorem KX.own{q:Nat}{w:O}{β:Type}(l:w.1.size<=q):OwnFrom q (fun(_:β) W=>KX ex n m w W):=fun s X Y row d c i=>
 have b:∀k o,w.1[k]?=U o->X.1[k]?=U o->Y.1[k]?=U o:=fun k o a h=>(c.block k (zd h) (fun e=>by have:=(i k e.symm).1;have:=zd a;omega)).trans h
 ⟨d.kept.trans (g:=fun k=>q<=k) ⟨c.os,c.tape,c.output,c.size,fun k a hn=>c.block k a (fun e=>hn (i k e.symm).1)⟩ (fun k a e=>by omega),fun k o f a j=>b k o a (d.walk k o f a j),fun k o f a=>b k o a (d.high k o f a)⟩
theorem KX.from{A B:O}(h:KX ex n m A B){q:Nat}(c:m<=q):KeepsFrom q A B:=⟨h.kept.size,fun k o b a _=>h.high k o (Nat.le_trans c b) a⟩
theorem KX.low{A B:O}(h:KX ex n m A B){k:Nat}(c:k<n)(b:¬ex k)(a:k<A.1.size):B.1[k]?=A.1[k]?:=h.kept.block k a (fun e=>e.elim b (by omega))
end
def jw{α:Type}(ex:Nat->Prop)(n:Nat)(P:Program)(g:Nat)(lb:Array z0)(encs:α->Array z0)(S:List α->Prop)(N:Nat)(w:O):Prop:=
 ∀m,w.1.size<=m->YK Fence.wide 6 P g lb encs (KX ex n m) S (fun _=>True) N m w
section
variable {P:Program} {ops:Array Oper} {md:Region.Mode} {w:O} {n:Nat} {l:Nat}
theorem YB{o:Oper}{a:Act}{K:Act->Prop}(h:o.still P a w K):∀c,o.op≠ .defer c:=fun c e=>by
 unfold Oper.still execOp at h
 rw[e]at h
 simp only[Oper.stillUpon]at h
 revert h
 generalize b:(resolve a.eval c o.type).run P w=r
 cases r with
 |ok d w'=>simp[b]
 |halt x w'=>simp[b]
theorem VX{o:Oper}{a:Act}{K:Act->Prop}{d:Act->O->Prop}{Q':Exit->Act->O->Prop}(h:∀a,K a->d a w)(b:o.still P a w K):o.wpIn (Fence.wide.inRound l) n P a w d Q':=by
 have c:=YB b
 unfold Oper.still at b
 unfold Oper.wpIn
 refine⟨fun _ _=>trivial,?_⟩
 rw[Oper.semAt_eq _ _ _ c]
 generalize(execOp a.eval o).run P w=r at*
 cases r with
 |ok k w'=>
  cases k<;>simp only[Oper.stillUpon]at b<;>simp only[Oper.uponIn]
  case enter f args=>
   obtain⟨rfl,v,i,hn⟩:=b
   exact⟨fun e=>by simp[Fence.inRound,Fence.wide]at e,(CallsIn.inRound l (callsIn_wide.2 i)).mono fun e p ⟨j,m⟩=>by subst j;subst m;exact h _ hn⟩
  all_goals(obtain⟨rfl,g⟩:=b;exact h _ g)
 |halt x w'=>simp only[Oper.stillUpon]at b
theorem zao{i:Nat}{a:Act}{K:Act->Prop}{c:Act->O->Prop}{Q':Exit->Act->O->Prop}(h:∀a,K a->c a w)(b:stOp P ops w i K a):wpOpIn (Fence.wide.inRound l) n P ops Q' i c a w:=by
 unfold stOp at b
 unfold wpOpIn
 split
 ·rename_i ho;simp only[ho]at b;exact h _ b
 ·rename_i o ho
  simp only[ho]at b
  split
  ·rename_i hw;simp only[hw,if_true]at b;exact VX h b
  ·rename_i hw;simp only[hw]at b;exact⟨fun _ _=>trivial,h _ b⟩
theorem ZS{k g:Nat}{L:Array Bool->Act->Prop}{Q':Exit->Act->O->Prop}(c:∀b a,L b a->wpAnyIn (Fence.wide.inRound l) n P md ops Q' g b a w):
  ∀(f:Nat) (b:Array Bool) (a:Act),wpAnyL P md ops w k L f b a->wpAnyIn (Fence.wide.inRound l) n P md ops Q' (f+g) b a w
 |0,b,a,h=>by rw[Nat.zero_add];exact c _ _ h
 |f+1,b,a,h=>by
  rw[show f+1+g=(f+g)+1 by omega]
  exact⟨fun e=>absurd e h.1,fun i j=>zao (fun a' d=>ZS c f _ a' d) (h.2 i j).2⟩
theorem XW{F:Fence}{Q':Exit->Act->O->Prop}:∀(c:List Oper) (k:Nat) (b:Array Bool) (a:Act) (w:O),(∀j,c[j]?=ops[k+j]?)->
  Region.seqB md ops c.length k b=true->wpListIn F n P ops Q' c a w->wpAnyIn F n P md ops Q' c.length b a w
 |[],_,_,_,_,_,d,h=>⟨by simpa[Region.seqB]using d,h⟩
 |o::c,k,b,a,w,l,d,h=>by
  have p:ops[k]?=U o:=by simpa using(l 0).symm
  simp only[List.length_cons,Region.seqB,Bool.and_eq_true,decide_eq_true_eq]at d
  refine⟨fun f=>(by rw[d.1]at f;cases f),fun i g=>?_⟩
  rw[d.1]at g
  have e:i=k:=by simpa using g
  subst e
  have q:wpOpIn F n P ops Q' i (wpListIn F n P ops Q' c) a w:=by unfold wpOpIn;simp only[p];exact h
  exact wpOpIn_mono (fun a' w' m=>XW c (i+1) _ a' w' (fun j=>by have:=l (j+1);simpa[Nat.add_assoc,Nat.add_comm 1 j]using this) d.2 m) q
theorem Zq{id:Nat}{Q:Exit->Act->O->Prop}{a:Act}{w:O}{b:List Oper}(k:Nat)(u:P.follows .mixedOrders=true)(o:Region.lexTailB .any b.toArray k=true)
  (h:wpStill P b.toArray w.drew (fun a'=>wpListIn (Fence.wide.inRound l) n P b.toArray Q (b.drop k) a' w.drew) (b.take k) a):(Code.region id b.toArray true).wpIn (Fence.wide.inRound l) n P Q a w:=by
 simp only[Region.lexTailB,Bool.and_eq_true,decide_eq_true_eq]at o
 obtain⟨⟨⟨⟨i,hn⟩,x⟩,s⟩,f⟩:=o
 have v:k<b.length:=by simpa using hn
 have c:(b.take k).length=k:=by simp;omega
 have e:(b.drop k).length=b.toArray.size-k:=by simp
 have m:HeadInv .any b.toArray k (Array.replicate b.toArray.size false):=
  ⟨by simp,fun j z _ r=>(by rw[getD_replicate_false]at r;cases r),fun t _ y=>getD_in (by simpa using y) (getD_replicate_false _ _)⟩
 have H:=wpAnyL_lex (md:=.any) (g:=b.toArray.size-k) i x s hn (b.take k) 0 _ a (fun j q=>by
  have hj':j<k:=by rw[c]at q;exact q
  simp[hj']) (by simpa using c) m (by rw[c];exact f) h
 refine wpIn_region_any u ?_
 have:=ZS (l:=l) (n:=n) (Q':=Q) (g:=b.toArray.size-k) (fun d a' p=>by
  have:=XW (F:=Fence.wide.inRound l) (n:=n) (md:=.any) (Q':=Q) (b.drop k) k d a' w.drew (fun j=>by simp[List.getElem?_drop]) (by rw[e];exact p.1) p.2
  rwa[e]at this) _ _ _ H
 rw[c,show k+(b.toArray.size-k)=b.toArray.size by omega]at this
 exact this
theorem xH{id:Nat}{Q:Exit->Act->O->Prop}{a:Act}{w:O}{b:List Oper}(k:Nat)(d:P.follows .mixedOrders=true)(c:Region.lexTailB .any b.toArray k=true)
  (h:wpStill P b.toArray w.drew (fun a'=>wpList P b.toArray Q (b.drop k) a' w.drew) (b.take k) a):(Code.region id b.toArray true).wp P Q a w:=wp_region_still_tail k d c h
end
end Go.Proofs.YtpbimdkclnekeaaGreat
