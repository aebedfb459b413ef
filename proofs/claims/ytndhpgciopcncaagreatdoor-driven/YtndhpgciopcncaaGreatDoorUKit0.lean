import Derived.Test.YtndhpgciopcncaaGreatDoorULater
import Derived.Maps.Keyed
import Derived.Maps.RangeRun
import Derived.RangeFuncOwn
import Derived.WalkKit
import Derived.Test.YtndhpgciopcncaaGreatDoorUConf0
import Derived.RangeFuncNested
import Derived.RangeFuncBound
import Derived.RangeFuncCalls
import Derived.RangeFuncLeaves
import Derived.StillTail
import Derived.StillTactics
import Derived.OrdersIn
import Derived.TacticsIn
open Go renaming World → O
open Option renaming some → U
open Option renaming none → G
open Go renaming Value → z0
open Nat renaming le_refl → z1
open Go.Value (int)
open Go.IntKind (i64)
open Go.IntKind (i32)
set_option linter.unusedVariables false
namespace Go.Proofs.YtndhpgciopcncaaGreatDoor
open Go.RowKit Go.Maps
open Go.ChangeMaps (setBlock modify_eq_set)
structure MK(α β:Type) where
 P:Program
 T:TypeId
 K:TypeId
 E:TypeId
 ke:α->z0
 ve:β->z0
 wf:α->Prop
 z:z0
structure MK.Ok{α β:Type}(M:MK α β):Prop where
 law:Keyed M.P M.K
 und:M.P.underlying M.T=U (.map M.K M.E)
 key:∀a,M.wf a->∃kl,keyOf M.P M.K (M.ke a)=U kl
 inj:∀a b,M.ke a=M.ke b->a=b
 zero:∀w,(zeroValue M.E).run M.P w=.ok M.z w
section
variable {α β:Type}
def zy(L:List (α×β)):List α:=L.map (·.1)
structure kC(M:MK α β)(es:Array MapEntry)(clock:Nat)(L:List (α×β)):Prop where
 kv:es.toList.map (fun e=>(e.key,e.val))=L.map (fun p=>(M.ke p.1,M.ve p.2))
 born:∀e∈es.toList,e.born<clock
 once:(es.toList.map (·.born)).Nodup
 wf:∀p∈L,M.wf p.1
 nodup:(zy L).Nodup
 size:es.size<=maxLen
def zV(M:MK α β)(w:O)(b:Nat)(L:List (α×β)):Prop:=∃c a,w.1[b]?=U (.map c a)/\kC M c a L
variable {M:MK α β}
theorem zV.lt{w:O}{b:Nat}{L:List (α×β)}(h:zV M w b L):b<w.1.size:=by
 obtain⟨d,a,c,_⟩:=h;exact za c
theorem zV.kept{f:Nat->Prop}{w w':O}{b:Nat}{L:List (α×β)}(h:zV M w b L)(g:zo f w w')(hn:¬f b):zV M w' b L:=by
 obtain⟨c,a,d,e⟩:=h;exact⟨c,a,g.heap d hn,e⟩
theorem zV.later{w w':O}{b:Nat}{L:List (α×β)}(h:zV M w b L)(a:Below w.1.size w w'):zV M w' b L:=
 h.kept (f:=fun _=>False) (zo.of_below a) (fun h=>h)
theorem zV.wf{w:O}{b:Nat}{L:List (α×β)}(h:zV M w b L):∀p∈L,M.wf p.1:=by obtain⟨d,a,e,c⟩:=h;exact c.wf
theorem zV.nodup{w:O}{b:Nat}{L:List (α×β)}(h:zV M w b L):(zy L).Nodup:=by obtain⟨d,a,e,c⟩:=h;exact c.nodup
theorem zV.made(w:O):zV M (w.alloc (.map #[] 0)) w.1.size []:=⟨#[],0,World.alloc_heap_new w _,⟨rfl,by simp,by simp,by simp,by simp[zy],by simp⟩⟩
theorem zV.same{w w':O}{b:Nat}{L:List (α×β)}(h:zV M w b L)(e:w'.1[b]?=w.1[b]?):zV M w' b L:=by
 obtain⟨c,a,d,f⟩:=h;exact⟨c,a,e.trans d,f⟩
theorem kC.keys(ok:M.Ok){c:Array MapEntry}{a:Nat}{L:List (α×β)}(h:kC M c a L):∀e∈c.toList,∃l,keyOf M.P M.K e.key=U l:=fun e d=>by
 have f:(e.key,e.val)∈L.map (fun p=>(M.ke p.1,M.ve p.2)):=h.kv▸List.mem_map.2 ⟨e,d,rfl⟩
 obtain⟨p,g,b⟩:=List.mem_map.1 f
 injection b with b i
 rw[<-b];exact ok.key _ (h.wf p g)
theorem kC.at{c:Array MapEntry}{a:Nat}{L:List (α×β)}(h:kC M c a L){j:Nat}{e:MapEntry}(f:c.toList[j]?=U e):∃p,L[j]?=U p/\e.key=M.ke p.1/\e.val=M.ve p.2:=by
 have b:(c.toList.map (fun e=>(e.key,e.val)))[j]?=U (e.key,e.val):=by simp[f]
 rw[h.kv,List.getElem?_map]at b
 cases d:L[j]? with
 |none=>simp[d]at b
 |some p=>
  rw[d]at b
  simp at b
  exact⟨p,rfl,b.1.symm,b.2.symm⟩
theorem kC.absent{b:Array MapEntry}{a:Nat}{L:List (α×β)}(h:kC M b a L){s:α}(f:∀e∈b.toList,e.key≠M.ke s):s∉zy L:=fun g=>by
 obtain⟨p,i,e⟩:=List.mem_map.1 (show s∈L.map (·.1)from g)
 have c:(M.ke p.1,M.ve p.2)∈b.toList.map (fun e=>(e.key,e.val)):=h.kv▸List.mem_map.2 ⟨p,i,rfl⟩
 obtain⟨x,j,ex⟩:=List.mem_map.1 c
 injection ex with d k
 exact f x j (by rw[d,e])
theorem kC.count{b:Array MapEntry}{a:Nat}{L:List (α×β)}(h:kC M b a L):b.size=L.length:=by
 have:=congrArg List.length h.kv;simpa using this
theorem zfF(ok:M.Ok){w:O}{b:Nat}{L:List (α×β)}(h:zV M w b L)(e:TypeId):(Builtin.len_ #[M.T] e #[.map (U b)]).run M.P w=.ok (int i64 L.length) w:=by
 obtain⟨f,a,c,d⟩:=h
 have:=d.count
 simp[Builtin.len_,run_underlying ok.und,MapKept.run_getObj_map c,goInt,Result.andThen,this]
end
section
variable {α β:Type} [DecidableEq α]
def zQ(L:List (α×β))(a:α):Option β:=(L.find? (fun p=>decide (p.1=a))).map (·.2)
def qq(L:List (α×β))(a:α)(v:β):List (α×β):=if a∈zy L then L.map (fun p=>if p.1=a then(a,v)else p)else L++[(a,v)]
def xe(L:List (α×β))(a:α):List (α×β):=L.filter (fun p=>decide (p.1≠a))
theorem xR{L:List (α×β)}{a:α}:zQ L a=G↔a∉zy L:=by
 unfold zQ zy
 rw[Option.map_eq_none_iff,List.find?_eq_none]
 constructor
 ·intro h c
  obtain⟨p,b,e⟩:=List.mem_map.1 c
  exact h p b (by simpa using e)
 ·intro h p b e
  exact h (List.mem_map.2 ⟨p,b,by simpa using e⟩)
theorem zO{L:List (α×β)}{a:α}{v:β}(h:zQ L a=U v):(a,v)∈L:=by
 unfold zQ at h
 obtain⟨p,b,e⟩:=Option.map_eq_some_iff.1 h
 have c:=List.mem_of_find?_eq_some b
 have d:=List.find?_some b
 have f:p.1=a:=by simpa using d
 subst f;subst e;exact c
theorem qB{L:List (α×β)}(hn:(zy L).Nodup){a:α}{v:β}(h:(a,v)∈L):zQ L a=U v:=by
 cases g:zQ L a with
 |none=>exact absurd (List.mem_map.2 ⟨_,h,rfl⟩) (xR.1 g)
 |some u=>
  have m:=zO g
  have d:L.Pairwise (fun a b=>a.1≠b.1):=List.pairwise_map.1 hn
  obtain⟨i,k,f⟩:=List.getElem_of_mem m
  obtain⟨j,l,e⟩:=List.getElem_of_mem h
  rcases Nat.lt_trichotomy i j with c|c|c
  ·have:=List.pairwise_iff_getElem.1 d i j k l c;rw[f,e]at this;exact absurd rfl this
  ·subst c;rw[f]at e;cases e;rfl
  ·have:=List.pairwise_iff_getElem.1 d j i l k c;rw[f,e]at this;exact absurd rfl this
theorem xw{L:List (α×β)}{a:α}{v:β}{k:α}:k∈zy (qq L a v)↔k∈zy L\/k=a:=by
 unfold qq
 split
 next h=>
  have e:zy (L.map (fun p=>if p.1=a then(a,v)else p))=zy L:=by
   unfold zy;rw[List.map_map]
   apply List.map_congr_left
   intro p _
   by_cases c:p.1=a<;>simp[c]
  rw[e]
  exact⟨.inl,fun b=>b.elim id (fun e=>e▸h)⟩
 next h=>simp[zy]
theorem zcM{L:List (α×β)}{a:α}{v:β}:zy (qq L a v)=if a∈zy L then zy L else zy L++[a]:=by
 unfold qq
 split
 next h=>
  unfold zy;rw[List.map_map]
  apply List.map_congr_left
  intro p _
  by_cases b:p.1=a<;>simp[b]
 next h=>simp[zy]
theorem qG{L:List (α×β)}{a:α}{v:β}(h:(zy L).Nodup):(zy (qq L a v)).Nodup:=by
 rw[zcM]
 split
 next=>exact h
 next hn=>
  rw[List.nodup_append]
  refine⟨h,by simp,fun x b y c e=>?_⟩
  simp at c
  rw[c]at e;rw[e]at b;exact hn b
theorem qs{L:List (α×β)}{a:α}{v:β}{p:α×β}(h:p∈qq L a v):p=(a,v)\/(p∈L/\p.1≠a):=by
 unfold qq at h
 split at h
 next hin=>
  obtain⟨q,c,e⟩:=List.mem_map.1 h
  by_cases b:q.1=a
  ·rw[if_pos b]at e;exact .inl e.symm
  ·rw[if_neg b]at e;subst e;exact .inr ⟨c,b⟩
 next hn=>
  rcases List.mem_append.1 h with h|h
  ·exact .inr ⟨h,fun e=>hn (List.mem_map.2 ⟨p,h,e⟩)⟩
  ·simp at h;exact .inl h
theorem vi{L:List (α×β)}(hn:(zy L).Nodup)(a:α)(v:β)(k:α):zQ (qq L a v) k=if k=a then U v else zQ L k:=by
 have c:=qG (a:=a) (v:=v) hn
 split
 next h=>
  subst h
  refine qB c ?_
  unfold qq
  split
  next hin=>
   obtain⟨q,f,e⟩:=List.mem_map.1 hin
   exact List.mem_map.2 ⟨q,f,by rw[if_pos e]⟩
  next=>simp
 next h=>
  cases d:zQ L k with
  |none=>exact xR.2 (fun b=>by
   rcases xw.1 b with b|b
   ·exact xR.1 d b
   ·exact h b)
  |some u=>
   refine qB c ?_
   have b:=zO d
   unfold qq
   split
   next=>exact List.mem_map.2 ⟨_,b,by rw[if_neg h]⟩
   next=>exact List.mem_append_left _ b
theorem xc{L:List (α×β)}{a:α}{p:α×β}:p∈xe L a↔p∈L/\p.1≠a:=by unfold xe;simp
theorem XK{L:List (α×β)}{a:α}:zy (xe L a)=(zy L).filter (fun k=>decide (k≠a)):=by
 unfold zy xe;rw[List.filter_map];rfl
theorem qo{L:List (α×β)}{a:α}(h:(zy L).Nodup):(zy (xe L a)).Nodup:=by rw[XK];exact h.filter _
theorem Yg{L:List (α×β)}(hn:(zy L).Nodup)(a k:α):zQ (xe L a) k=if k=a then G else zQ L k:=by
 split
 next h=>
  subst h
  exact xR.2 (by rw[XK];simp)
 next h=>
  cases b:zQ L k with
  |none=>exact xR.2 (by rw[XK];simp;intro c;exact absurd c (xR.1 b))
  |some u=>exact qB (qo hn) (xc.2 ⟨zO b,h⟩)
theorem ki{L:List (α×β)}{a:α}{v:β}:(qq L a v).length=if a∈zy L then L.length else L.length+1:=by
 unfold qq;split<;>simp
theorem Qk{L:List (α×β)}{a:α}:(xe L a).length<=L.length:=List.length_filter_le _ _
variable {M:MK α β}
def zhq(M:MK α β)(c:Bool)(o:Option β):z0:=match o with
 |none=>if c then .tuple #[M.z,.bool false]else M.z
 |some v=>if c then .tuple #[M.ve v,.bool true]else M.ve v
theorem yt(ok:M.Ok)(c:Bool){w:O}{b:Nat}{L:List (α×β)}(h:zV M w b L){s:α}(r:M.wf s):
  (Instr.lookup M.T (.map (U b)) (M.ke s) c).run M.P w=.ok (zhq M c (zQ L s)) w:=by
 obtain⟨m,e,l,d⟩:=h
 obtain⟨u,a⟩:=ok.key s r
 rcases ok.law.find w a m.toList (d.keys ok)with⟨f,g⟩|⟨j,t,f,g,n⟩
 ·have i:zQ L s=G:=xR.2 (d.absent g)
  simp[Instr.lookup,run_underlying ok.und,MapKept.run_getObj_map l,ok.law.check w _ a,f,ok.zero w,Result.andThen,zhq,i]
 ·obtain⟨p,q,o,hv⟩:=d.at g
  have k:p.1=s:=ok.inj _ _ (o.symm.trans n)
  have i:zQ L s=U p.2:=by rw[<-k];exact qB d.nodup (List.mem_of_getElem? q)
  simp[Instr.lookup,run_underlying ok.und,MapKept.run_getObj_map l,ok.law.check w _ a,f,Result.andThen,zhq,i,hv]
theorem xQ{w:O}{b:Nat}(o:Obj):zo (fun k=>k=b) w (setBlock w b o):=⟨rfl,rfl,rfl,by simp[setBlock],fun k c a=>by
  simp only[setBlock];rw[Array.getElem?_setIfInBounds_ne (fun e=>a e.symm)]⟩
theorem kX(ok:M.Ok){w:O}{b:Nat}{L:List (α×β)}(h:zV M w b L)(N:L.length<maxLen){s:α}(Q:M.wf s)(v:β):
  ∃o,(Instr.mapUpdate M.T (.map (U b)) (M.ke s) (M.ve v)).run M.P w=.ok () (setBlock w b o)/\zV M (setBlock w b o) b (qq L s v)/\zo (fun k=>k=b) w (setBlock w b o)/\o.isCells=false:=by
 have I:=h.lt
 have A:∀o,(setBlock w b o).1[b]?=U o:=fun o=>by simp[setBlock,I]
 obtain⟨r,f,E,d⟩:=h
 obtain⟨kl,t⟩:=ok.key s Q
 rcases ok.law.find w t r.toList (d.keys ok)with⟨H,y⟩|⟨j,z,H,y,W⟩
 ·have Z:s∉zy L:=d.absent y
  refine⟨.map (r.push ⟨M.ke s,M.ve v,f⟩) (f+1),?_,⟨_,_,A _,?_⟩,xQ _,rfl⟩
  ·simp[Instr.mapUpdate,run_underlying ok.und,MapKept.run_getObj_map E,ok.law.check w false t,H,MapKept.run_setObj_map _ E,Result.andThen,setBlock]
  ·have l:qq L s v=L++[(s,v)]:=by unfold qq;rw[if_neg Z]
   refine⟨by rw[l];simp[d.kv],?_,?_,?_,qG d.nodup,by have:=d.count;simp;omega⟩
   ·intro x n
    simp at n
    rcases n with n|rfl
    ·have:=d.born x (by simpa using n);omega
    ·simp
   ·rw[Array.toList_push,List.map_append,List.nodup_append]
    refine⟨d.once,by simp,fun a Y c X=>?_⟩
    simp at X;subst X
    obtain⟨x,n,rfl⟩:=List.mem_map.1 Y
    have:=d.born x n;omega
   ·rw[l];intro p l
    rcases List.mem_append.1 l with l|l
    ·exact d.wf p l
    ·simp at l;subst l;exact Q
 ·obtain⟨p,l,hk,hv⟩:=d.at y
  have u:p.1=s:=ok.inj _ _ (hk.symm.trans W)
  have hj:r[j]?=U z:=by simpa using y
  have hin:s∈zy L:=by unfold zy;exact List.mem_map.2 ⟨p,List.mem_of_getElem? l,u⟩
  have g:(r.modify j (fun F=>{F with key:=M.ke s,val:=M.ve v})).toList=r.toList.set j {z with key:=M.ke s,val:=M.ve v}:=by rw[Array.toList_modify,modify_eq_set _ _ _ _ y]
  refine⟨.map (r.modify j (fun F=>{F with key:=M.ke s,val:=M.ve v})) f,?_,⟨_,_,A _,?_⟩,xQ _,rfl⟩
  ·simp[Instr.mapUpdate,run_underlying ok.und,MapKept.run_getObj_map E,ok.law.check w false t,H,hj,W,ok.law.stays w t,MapKept.run_setObj_map _ E,Result.andThen,setBlock]
  ·have C:qq L s v=L.set j (s,v):=by
    unfold qq;rw[if_pos hin]
    apply List.ext_getElem?
    intro i
    rw[List.getElem?_map,List.getElem?_set]
    by_cases e:j=i
    ·subst e
     have m:j<L.length:=(List.getElem?_eq_some_iff.1 l).1
     rw[l];simp only[Option.map_some,u,if_true,m]
    ·rw[if_neg e]
     cases hi:L[i]? with
     |none=>simp
     |some q=>
      have J:q.1≠s:=fun V=>by
       have D:L.Pairwise (fun a b=>a.1≠b.1):=List.pairwise_map.1 d.nodup
       obtain⟨B,R⟩:=List.getElem?_eq_some_iff.1 hi
       obtain⟨m,S⟩:=List.getElem?_eq_some_iff.1 l
       rcases Nat.lt_or_gt_of_ne e with h|h
       ·have:=List.pairwise_iff_getElem.1 D j i m B h;rw[R,S]at this;exact this (u.trans V.symm)
       ·have:=List.pairwise_iff_getElem.1 D i j B m h;rw[R,S]at this;exact this (V.trans u.symm)
      simp[J]
   refine⟨?_,?_,?_,?_,qG d.nodup,by simpa using d.size⟩
   ·rw[g,C,List.map_set,List.map_set,d.kv]
   ·intro x n
    rw[g]at n
    rcases List.mem_or_eq_of_mem_set n with n|rfl
    ·exact d.born x n
    ·exact d.born z (List.mem_of_getElem? y)
   ·rw[g,List.map_set]
    have:(r.toList.map (·.born)).set j z.born=r.toList.map (·.born):=by
     apply List.ext_getElem?
     intro i
     rw[List.getElem?_set]
     by_cases e:j=i
     ·subst e
      have m:j<r.toList.length:=(List.getElem?_eq_some_iff.1 y).1
      simp only[List.length_map,m,if_true,List.getElem?_map,y,Option.map_some]
     ·rw[if_neg e]
    show((r.toList.map (·.born)).set j z.born).Nodup
    rw[this];exact d.once
   ·intro q K
    rcases qs K with rfl|⟨K,_⟩
    ·exact Q
    ·exact d.wf q K
theorem Xc(ok:M.Ok){w:O}{b:Nat}{L:List (α×β)}{k:Array MapEntry}{c:Nat}(E:w.1[b]?=U (.map k c))(g:kC M k c L){s:α}(hs:M.wf s)(ty:TypeId):
  ∃n,(Builtin.delete_ #[M.T,M.K] ty #[.map (U b),M.ke s]).run M.P w=.ok (.tuple #[]) (setBlock w b (.map n c))/\kC M n c (xe L s)/\(∀e,e∈n.toList↔e∈k.toList/\e.key≠M.ke s):=by
 obtain⟨kl,o⟩:=ok.key s hs
 rcases ok.law.find w o k.toList (g.keys ok)with⟨H,v⟩|⟨j,e0,H,v,S⟩
 ·have Y:s∉zy L:=g.absent v
  have I:xe L s=L:=by
   unfold xe;rw[List.filter_eq_self]
   intro p B;simp;intro e;exact Y (List.mem_map.2 ⟨p,B,e⟩)
  refine⟨k,?_,by rw[I];exact g,fun e=>⟨fun h=>⟨h,v e h⟩,fun h=>h.1⟩⟩
  simp[Builtin.delete_,run_underlying ok.und,MapKept.run_getObj_map E,ok.law.check w _ o,H,MapKept.run_setObj_map _ E,Result.andThen,setBlock]
 ·obtain⟨p,B,hk,hv⟩:=g.at v
  have t:p.1=s:=ok.inj _ _ (hk.symm.trans S)
  have J:j<k.toList.length:=(List.getElem?_eq_some_iff.1 v).1
  have N:j<k.size:=by simpa using J
  have f:(k.eraseIdxIfInBounds j).toList=k.toList.eraseIdx j:=by
   unfold Array.eraseIdxIfInBounds
   rw[dif_pos N]
   simp
  have C:L.Pairwise (fun a b=>a.1≠b.1):=List.pairwise_map.1 g.nodup
  have z:j<L.length:=(List.getElem?_eq_some_iff.1 B).1
  have d:∀i q,L[i]?=U q->i≠j->q.1≠s:=fun i q l r R=>by
   obtain⟨y,u⟩:=List.getElem?_eq_some_iff.1 l
   obtain⟨_,D⟩:=List.getElem?_eq_some_iff.1 B
   rcases Nat.lt_or_gt_of_ne r with h|h
   ·have:=List.pairwise_iff_getElem.1 C i j y z h;rw[u,D]at this;exact this (R.trans t.symm)
   ·have:=List.pairwise_iff_getElem.1 C j i z y h;rw[u,D]at this;exact this (t.trans R.symm)
  have I:xe L s=L.eraseIdx j:=by
   have W:L=L.take j++p::L.drop (j+1):=by
    obtain⟨A,D⟩:=List.getElem?_eq_some_iff.1 B
    rw[<-D,<-List.drop_eq_getElem_cons A];exact(List.take_append_drop j L).symm
   have t1:∀q∈L.take j,q.1≠s:=fun q m=>by
    obtain⟨i,l,u⟩:=List.getElem_of_mem m
    have Z:i<j:=by simp at l;omega
    exact d i q (by rw[<-u];simp[List.getElem_take]) (by omega)
   have t2:∀q∈L.drop (j+1),q.1≠s:=fun q m=>by
    obtain⟨i,l,u⟩:=List.getElem_of_mem m
    exact d (j+1+i) q (by rw[<-u];simp at l ⊢) (by omega)
   rw[List.eraseIdx_eq_take_drop_succ]
   unfold xe
   conv=>lhs;rw[W]
   rw[List.filter_append,List.filter_cons_of_neg (by simp[t]),List.filter_eq_self.2 (fun q m=>by simpa using t1 q m),List.filter_eq_self.2 (fun q m=>by simpa using t2 q m)]
  refine⟨k.eraseIdxIfInBounds j,?_,⟨?_,?_,?_,?_,qo g.nodup,?_⟩,?_⟩
  ·simp[Builtin.delete_,run_underlying ok.und,MapKept.run_getObj_map E,ok.law.check w _ o,H,MapKept.run_setObj_map _ E,Result.andThen,setBlock]
  ·rw[f,I,Go.ChangeMaps.map_eraseIdx,Go.ChangeMaps.map_eraseIdx,g.kv]
  ·intro x V;rw[f]at V;exact g.born x ((List.eraseIdx_sublist _ _).subset V)
  ·rw[f];exact g.once.sublist ((List.eraseIdx_sublist _ _).map _)
  ·intro q m;exact g.wf q (xc.1 m).1
  ·have:=MapFrom.size_erase k j;have:=g.size;omega
  ·intro e
   rw[f]
   constructor
   ·intro h
    refine⟨(List.eraseIdx_sublist _ _).subset h,fun F=>?_⟩
    obtain⟨i,r,l⟩:=List.mem_eraseIdx_iff_getElem?.1 h
    obtain⟨q,m,Q,_⟩:=g.at l
    exact d i q m r (ok.inj _ _ (Q.symm.trans F))
   ·rintro⟨h,F⟩
    obtain⟨i,l⟩:=List.mem_iff_getElem?.1 h
    refine List.mem_eraseIdx_iff_getElem?.2 ⟨i,fun X=>?_,l⟩
    subst X
    rw[v]at l
    cases l
    exact F S
end
end Go.Proofs.YtndhpgciopcncaaGreatDoor
namespace Go.Proofs.YtndhpgciopcncaaGreatDoor
open Go.RowKit
structure Cf where
 s:Int
 le:Int
 la:Int
 wi:Int
 ke:Int
 qu:Int
 n:Nat
 F:Nat->Int
 W:Nat->Int
 K:Nat->Int
structure Nm where
 sr:Int
 tm:Int
 val:Int
structure Sg where
 t:Int
 sr:Int
 wa:Int
deriving DecidableEq
structure Cl where
 cnt:Int
 sum:Int
 mn:Int
 mx:Int
structure Tk where
 kind:Int
 s:Sg
 se:Int
 ti:Int
 rest:Int
 ep:Int
 num:Int
 slot:Int
 till:Int
structure RM where
 c:Cf
 now:Int
 nu:List Nm
 pub:List Sg
 gone:List Sg
 td:List Tk
 epoch:Int
 picks:Int
def nmV(x:Nm):List z0:=[int i64 x.sr,int i64 x.tm,int i32 x.val]
section
variable {α:Type}
theorem vh{f:α->List z0}{k:Nat}(c:∀a,(f a).length=k):∀(l:List α) (i:Nat) (a:α) (j:Nat),l[i]?=U a->j<k->(l.flatMap f)[i*k+j]?=(f a)[j]?
 |[],i,a,j,h,_=>by simp at h
 |b::l,0,a,j,h,d=>by
  simp at h;subst h
  rw[List.flatMap_cons,List.getElem?_append_left (by rw[c];omega)];simp
 |b::l,i+1,a,j,h,d=>by
  have:=vh c l i a j (by simpa using h) d
  rw[List.flatMap_cons,List.getElem?_append_right (by rw[c,Nat.add_mul];omega),c,<-this]
  congr 1;rw[Nat.add_mul];omega
theorem Kr(f:α->List z0)(l:List α)(a:α):(l++[a]).flatMap f=l.flatMap f++f a:=by simp
end
theorem J5(x:Nm):(nmV x).length=3:=rfl
structure Cf.ok(c:Cf):Prop where
 n1:1<=c.n
 n4:c.n<=4
 wi1:1<=c.wi
 wi2:c.wi<=1000
 W:∀i,i<c.n->1<=c.W i/\c.W i<=1000
 F:∀i,i<c.n-> -1<=c.F i/\c.F i<c.n
 K:∀i,i<c.n->0<=c.K i/\c.K i<=1000
 ke:0<=c.ke/\c.ke<=1000
 la:0<=c.la/\c.la<=100
 qu:1<=c.qu/\c.qu<=400
 sl:1<=c.s/\c.s<=4
 le:1<=c.le/\c.le<=100
def Cf.wt(c:Cf)(t:Int):Int:=zT c.wi c.W t
theorem Cf.ok.wt{c:Cf}(h:c.ok){t:Int}(a: -1<=t)(b:t<c.n):1<=c.wt t/\c.wt t<=1000:=by
 unfold Cf.wt zT
 split
 ·exact⟨h.wi1,h.wi2⟩
 ·exact h.W _ (by omega)
def zB(c:Cf)(t:Int)(x:Nm):Sg:=⟨t,x.sr,x.tm/c.wt t⟩
def zjy(l:List Sg)(s:Sg):List Sg:=if s∈l then l else l++[s]
def zfH(c:Cf)(t:Int)(nu:List Nm)(l:List Sg):List Sg:=nu.foldl (fun l x=>zjy l (zB c t x)) l
def zjj(c:Cf)(nu:List Nm)(k:Nat):List Sg:=(List.range k).foldl (fun l (j:Nat)=>zfH c ((j:Int)-1) nu l) []
def zji(c:Cf)(nu:List Nm):List Sg:=zjj c nu (c.n+1)
def zjx(a:Cl)(v:Int):Cl:=⟨a.cnt+1,a.sum+v,if a.cnt=0\/v<a.mn then v else a.mn,if a.cnt=0\/a.mx<v then v else a.mx⟩
def zjm(c:Cf)(s:Sg)(a:Cl)(x:Nm):Cl:=if zB c s.t x=s then zjx a x.val else a
def ziM(c:Cf)(s:Sg)(nu:List Nm):Cl:=nu.foldl (zjm c s) ⟨0,0,0,0⟩
def Nm.ok(x:Nm):Prop:= -2147483648<=x.val/\x.val<=2147483647/\0<=x.tm/\x.tm<=100000/\0<=x.sr/\x.sr<4
def X5{α:Type}(F:Fence)(n:Nat)(P:Program)(g:Nat)(lb:Array z0)(encs:α->Array z0)(Kp:O->O->Prop)(S d:List α->Prop)(N m:Nat)(w:O):Prop:=
 ∀(l:Nat) (J c:List α->O->Prop) (W:O),Below w.1.size w W->m<=W.1.size->OwnFrom W.1.size J->OwnFrom W.1.size c->
  (∀a x V,J a V->a.length<N->YieldAt F (n-1) P l (encs x) V fun e b=>(e=.returned (.bool true)/\J (a++[x]) b/\Kp V b)\/(e=.returned (.bool false)/\c (a++[x]) b/\Kp V b))->
  J [] W->CallsIn F n P g (#[.func (.yield l) #[] #[]]++lb) W fun e V=>(∃v,e=.returned v)/\((∃xs,S xs/\J xs V)\/∃a,d a/\c a V)
theorem QK{β:Type}{B:Nat}{J:β->O->Prop}(h:OwnFrom B J):AbidesFrom B J:=fun s W b a j g i=>
 h s W b a j g (fun r e=>by obtain⟨c,o,d,f⟩:=i r e;exact⟨c,o,d,Obj.not_cells_of_walk f⟩)
theorem X5.of{α:Type}{F:Fence}{n:Nat}{P:Program}{g:Nat}{lb:Array z0}{encs:α->Array z0}{Kp:O->O->Prop}{S f:List α->Prop}{N m:Nat}{w:O}(h:SeqStopsK F n P g lb encs Kp S f N w):X5 F n P g lb encs Kp S f N m w:=
 fun l J i W o _ k c p j=>h l J i W o (QK k) (QK c) (fun d x V hv r=>(p d x V hv r).mono fun e s q=>q.imp id (fun⟨a,b,_⟩=>⟨a,b⟩)) j
theorem X5.keeps{α:Type}{F:Fence}{n:Nat}{P:Program}{g:Nat}{lb:Array z0}{encs:α->Array z0}{Kp i:O->O->Prop}{S j:List α->Prop}{N m:Nat}{w:O}(h:X5 F n P g lb encs Kp S j N m w)(k:∀A B,i A B->Kp A B):X5 F n P g lb encs i S j N m w:=
 fun l J o W r v q d s p=>h l J o W r v q d (fun f x V hv u=>(s f x V hv u).mono fun e y t=>t.imp (fun⟨a,b,c⟩=>⟨a,b,k _ _ c⟩) (fun⟨a,b,c⟩=>⟨a,b,k _ _ c⟩)) p
theorem X5.inRound{α:Type}{F:Fence}{n:Nat}{P:Program}{g:Nat}{lb:Array z0}{encs:α->Array z0}{Kp:O->O->Prop}{S a:List α->Prop}{N m:Nat}{w:O}(l:Nat)(h:X5 F n P g lb encs Kp S a N m w):X5 (F.inRound l) n P g lb encs Kp S a N m w:=h
def Yy{α:Type}(B:Nat)(Kp:O->O->Prop)(I:List α->O->Prop)(b:Code->List α->O->Prop)(xs:List α)(W:O)(e:Exit)(_:Act)(a:O):Prop:=
 KeepsFrom B W a/\Kp W a/\match e with
 | .normal=>I xs a
 | .ret=>b .ret xs a
 | .exit id=>b (.exit id) xs a
 | .goto t=>b (.goto t) xs a
 | .panic _=>False
 | .outgrown=>False
theorem vY{W b:O}{a:Option Nat}{B k:Nat}{o:Obj}(c:W.grownBy b a)(d:∀r,a=U r->B<=r)(f:k<B)(h:W.1[k]?=U o):b.1[k]?=U o:=
 (c.block k (za h) (fun e=>by have:=d k e.symm;omega)).trans h
section
variable {α:Type} {F:Fence} {n:Nat} {P:Program} {ps:Array Tmp} {assign body:Code} {encs:α->Array z0} {Kp:O->O->Prop} {N:Nat}
theorem zdw(B l fn h:Nat)(tmps:Array z0)(hF:F.fn fn)(i:B<=l)(a7:∀x,(encs x).size=ps.size)(E:O->Prop)(hE:∀W u,E W->KeepsFrom B W u->E u)(w:∀W o,E W->E (W.putObj l o))
  (y:∀{X Y Z:O},Kp X Y->Kp Y Z->Kp X Z) (D:∀(W:O) (o Q:Obj),W.1[l]?=U o->o.isCells=false->o.isWalk=false->Kp W (W.putObj l Q))
  (I:List α->O->Prop) (C:Code->List α->O->Prop) (hI:OwnFrom B I) (a0:∀c,OwnFrom B (C c)) (R:α->Act->O->Prop) (T:∀x m,OwnFrom B (fun(_:Unit) W=>R x m W))
  (k:∀(a:List α) (x:α) (W:O) (K:Act->O->Prop),I a W->(∀m u,KeepsFrom B W u->Kp W u->I a u->R x m u->K m u)->
   assign.wpIn (F.inRound l) n P (Exit.then K (fun _ _ _=>False)) {tmps:=(ps.zip (encs x)).foldl (fun t (p,v)=>t.setIfInBounds p v) tmps,defers:=[]} W)
  (z:∀(a:List α) (x:α) (m:Act) (W:O),(∃r:Loop,W.1[l]?=U (.loop r)/\r.defers=h)->I a W->R x m W->a.length<N->body.wpIn (F.inRound l) n P (Yy B Kp I C (a++[x]) W) m W)
  (a:List α) (x:α) (W:O) (hi:I a W) (hl:W.1[l]?=U (.loop {state:=.ready,pending:=G,fn,tmps,params:=ps,assign,body,defers:=h})) (he:E W) (J:a.length<N):
  YieldAt F n P l (encs x) W fun e V=>(e=.returned (.bool true)/\(I (a++[x]) V/\V.1[l]?=U (.loop {state:=.ready,pending:=G,fn,tmps,params:=ps,assign,body,defers:=h})/\E V)/\Kp W V)\/
   (e=.returned (.bool false)/\(∃c,C c (a++[x]) V/\V.1[l]?=U (.loop {state:=.done,pending:=U c,fn,tmps,params:=ps,assign,body,defers:=h})/\E V)/\Kp W V):=by
 refine⟨fn,_,assign,body,run_yield (P:=P) (args:=encs x) hl (a7 x),roundIn_of_wpIn hF (k a x W _ hi fun m X H a6 a5 a1=>?_)⟩
 have j:=H.same l _ i hl rfl
 have a2:=hE _ _ he H
 refine⟨_,run_beginRound j rfl,wpIn_mono (z a x m _ ⟨_,World.putObj_heap_same (za j),rfl⟩ (hI.putObj _ a5 i j rfl) ((T x m).putObj (s:=()) _ a1 i j rfl) J) ?_⟩
 have hb:=World.putObj_heap_same (o:=.loop {state:=.busy,pending:=G,fn,tmps,params:=ps,assign,body,defers:=h}) (za j)
 have b:∀V,KeepsFrom B (X.putObj l (.loop {state:=.busy,pending:=G,fn,tmps,params:=ps,assign,body,defers:=h})) V->V.1[l]?=U (.loop {state:=.busy,pending:=G,fn,tmps,params:=ps,assign,body,defers:=h})/\E V:=
  fun V f=>⟨f.same l _ i hb rfl,hE _ _ (w _ _ a2) f⟩
 have g:∀c V,KeepsFrom B (X.putObj l (.loop {state:=.busy,pending:=G,fn,tmps,params:=ps,assign,body,defers:=h})) V->C c (a++[x]) V->
   C c (a++[x]) (V.putObj l (.loop {state:=.done,pending:=U c,fn,tmps,params:=ps,assign,body,defers:=h}))/\(V.putObj l (.loop {state:=.done,pending:=U c,fn,tmps,params:=ps,assign,body,defers:=h})).1[l]?=U (.loop {state:=.done,pending:=U c,fn,tmps,params:=ps,assign,body,defers:=h})/\E (V.putObj l (.loop {state:=.done,pending:=U c,fn,tmps,params:=ps,assign,body,defers:=h})):=fun c V f A=>by
  obtain⟨q,S⟩:=b V f
  exact⟨(a0 c).putObj _ A i q rfl,World.putObj_heap_same (za q),w _ _ S⟩
 have M:∀V Q,Kp (X.putObj l (.loop {state:=.busy,pending:=G,fn,tmps,params:=ps,assign,body,defers:=h})) V->V.1[l]?=U (.loop {state:=.busy,pending:=G,fn,tmps,params:=ps,assign,body,defers:=h})->Kp W (V.putObj l Q):=fun V Q d q=>y a6 (y (y (D _ _ _ j rfl rfl) d) (D _ _ _ q rfl rfl))
 intro e a3 V L
 match e,L with
 | .normal,⟨f,d,a4⟩=>
  obtain⟨q,S⟩:=b V f
  exact⟨_,_,run_endRound (P:=P) G q,.inl ⟨rfl,⟨hI.putObj _ a4 i q rfl,World.putObj_heap_same (za q),w _ _ S⟩,M V _ d q⟩⟩
 | .ret,⟨f,d,A⟩=>exact⟨_,_,run_endRound (P:=P) (U .ret) (b V f).1,.inr ⟨rfl,⟨.ret,g .ret V f A⟩,M V _ d (b V f).1⟩⟩
 | .exit id,⟨f,d,A⟩=>exact⟨_,_,run_endRound (P:=P) (U (.exit id)) (b V f).1,.inr ⟨rfl,⟨.exit id,g (.exit id) V f A⟩,M V _ d (b V f).1⟩⟩
 | .goto t,⟨f,d,A⟩=>exact⟨_,_,run_endRound (P:=P) (U (.goto t)) (b V f).1,.inr ⟨rfl,⟨.goto t,g (.goto t) V f A⟩,M V _ d (b V f).1⟩⟩
 | .panic ch,L=>exact L.2.2.elim
 | .outgrown,L=>exact L.2.2.elim
end
section
variable {α:Type} {F:Fence} {n:Nat} {P:Program} {g:Operand} {ps:Array Tmp} {assign body:Code} {Q:Exit->Act->O->Prop} {a:Act} {w:O}
theorem qD(a7:F.round=G)(h1:1<=n){gf:Nat}{lb:Array z0}(hg:a.eval g=.func (.func gf) #[] lb)(a1:F.fn gf)(eg:∀args w,(callFunc gf args).run P w=.ok (.enter gf args) w)
  {encs:α->Array z0} {Kp:O->O->Prop} {S Sp:List α->Prop} {N m:Nat} {w0:O} (T:X5 F (n-1) P gf lb encs Kp S Sp N m w0) (hm:m<=w.1.size+2)
  (a4:∀{X Y Z:O},Kp X Y->Kp Y Z->Kp X Z) (a3:∀(W:O) (o o':Obj),W.1[w.1.size+1]?=U o->o.isCells=false->o.isWalk=false->Kp W (W.putObj (w.1.size+1) o')) (J:Below w0.1.size w0 w) (a6:∀x,(encs x).size=ps.size)
  (I:List α->O->Prop) (E:Code->List α->O->Prop) (H:OwnFrom w.1.size I) (q:∀c,OwnFrom w.1.size (E c)) (h0:I [] w) (Ax:α->Act->O->Prop) (a0:∀x j,OwnFrom w.1.size (fun(_:Unit) W=>Ax x j W))
  (f:∀(l:Nat) (b:List α) (x:α) (W:O) (K:Act->O->Prop),I b W->(∀j C,KeepsFrom w.1.size W C->Kp W C->I b C->Ax x j C->K j C)->
   assign.wpIn (F.inRound l) (n-1-1) P (Exit.then K (fun _ _ _=>False)) {tmps:=(ps.zip (encs x)).foldl (fun t (p,v)=>t.setIfInBounds p v) a.tmps,defers:=[]} W)
  (u:∀(l:Nat) (b:List α) (x:α) (j:Act) (W:O),w.1.size<=l->(∃r,W.1[l]?=U (.loop r))->I b W->Ax x j W->b.length<N->body.wpIn (F.inRound l) (n-1-1) P (Yy w.1.size Kp I E (b++[x]) W) j W)
  (y:∀(D:Nat) (xs:List α) (W:O),w.1.size<=D->S xs->I xs W->W.1[D]?=U (.deferred (U []))->Q .normal {a with defers:={target:=.collected D,args:=#[]}::a.defers} W)
  (z:∀(D:Nat) (c:Code) (b:List α) (W:O),w.1.size<=D->Sp b->E c b W->W.1[D]?=U (.deferred (U []))->c.wpIn F n P Q {a with defers:={target:=.collected D,args:=#[]}::a.defers} W):
  (Code.rangeFunc g ps assign body).wpIn F n P Q a w:=by
 refine wpIn_rangeFunc fun fn a5=>?_
 rw[a7]
 have hz:((w.alloc (.deferred (U []))).alloc (.loop {state:=.ready,pending:=G,fn,tmps:=a.tmps,params:=ps,assign,body,defers:=w.1.size})).1.size=w.1.size+2:=by simp
 refine⟨w.1.size+1,[{target:=.collected w.1.size,args:=#[]}],((w.alloc (.deferred (U []))).alloc (.loop {state:=.ready,pending:=G,fn,tmps:=a.tmps,params:=ps,assign,body,defers:=w.1.size})),{target:=.fn (.func gf) lb,args:=#[.func (.yield (w.1.size+1)) #[] #[]]},((w.alloc (.deferred (U []))).alloc (.loop {state:=.ready,pending:=G,fn,tmps:=a.tmps,params:=ps,assign,body,defers:=w.1.size})),gf,#[.func (.yield (w.1.size+1)) #[] #[]]++lb,((w.alloc (.deferred (U []))).alloc (.loop {state:=.ready,pending:=G,fn,tmps:=a.tmps,params:=ps,assign,body,defers:=w.1.size})),run_enterLoop_outer fn a.tmps ps assign body,by simp only[resolve,hg];simp[go_sem],fun f' L=>by simp[Target.leads]at L;subst L;exact a1,by simp[invoke,go_sem,eg],fun _=>h1,?_⟩
 have hD:((w.alloc (.deferred (U []))).alloc (.loop {state:=.ready,pending:=G,fn,tmps:=a.tmps,params:=ps,assign,body,defers:=w.1.size})).1[w.1.size]?=U (.deferred (U [])):=(Below.heap_alloc _ _ _ (by simp)).trans (World.alloc_heap_new w _)
 have hL:((w.alloc (.deferred (U []))).alloc (.loop {state:=.ready,pending:=G,fn,tmps:=a.tmps,params:=ps,assign,body,defers:=w.1.size})).1[w.1.size+1]?=U (.loop {state:=.ready,pending:=G,fn,tmps:=a.tmps,params:=ps,assign,body,defers:=w.1.size}):=by
  have:=World.alloc_heap_new (w.alloc (.deferred (U []))) (.loop {state:=.ready,pending:=G,fn,tmps:=a.tmps,params:=ps,assign,body,defers:=w.1.size});rwa[World.size_alloc]at this
 have hB:Below w0.1.size w0 ((w.alloc (.deferred (U []))).alloc (.loop {state:=.ready,pending:=G,fn,tmps:=a.tmps,params:=ps,assign,body,defers:=w.1.size})):=J.trans ((((Below.refl _ w).alloc (z1 _) _).alloc (by simp) _).mono J.size)
 have a2:=H.alloc (.loop {state:=.ready,pending:=G,fn,tmps:=a.tmps,params:=ps,assign,body,defers:=w.1.size}) (H.alloc (.deferred (U [])) h0)
 generalize((w.alloc (.deferred (U []))).alloc (.loop {state:=.ready,pending:=G,fn,tmps:=a.tmps,params:=ps,assign,body,defers:=w.1.size}))=W1 at*
 refine(T (w.1.size+1)
  (fun b W=>I b W/\W.1[w.1.size+1]?=U (.loop {state:=.ready,pending:=G,fn,tmps:=a.tmps,params:=ps,assign,body,defers:=w.1.size})/\W.1[w.1.size]?=U (.deferred (U [])))
  (fun b W=>∃c,E c b W/\W.1[w.1.size+1]?=U (.loop {state:=.done,pending:=U c,fn,tmps:=a.tmps,params:=ps,assign,body,defers:=w.1.size})/\W.1[w.1.size]?=U (.deferred (U [])))
  W1 hB (by omega) (fun s X Y B R d i=>⟨H s X Y B R.1 d (fun r e=>⟨by have:=(i r e).1;omega,(i r e).2⟩),vY d (fun r e=>(i r e).1) (by omega) R.2.1,vY d (fun r e=>(i r e).1) (by omega) R.2.2⟩)
  (fun s X Y B R d i=>by
   obtain⟨c,k1,A,k3⟩:=R
   exact⟨c,q c s X Y B k1 d (fun r e=>⟨by have:=(i r e).1;omega,(i r e).2⟩),vY d (fun r e=>(i r e).1) (by omega) A,vY d (fun r e=>(i r e).1) (by omega) k3⟩)
  (fun b x V hv M=>?_) ⟨a2,hL,hD⟩).mono ?_
 ·obtain⟨v1,v2,v3⟩:=hv
  exact zdw (P:=P) (Kp:=Kp) (n:=n-1-1) w.1.size (w.1.size+1) fn w.1.size a.tmps a5 (by omega) a6 (fun W=>W.1[w.1.size]?=U (.deferred (U []))) (fun W C he hk=>hk.same _ _ (z1 _) he rfl) (fun W o he=>(World.putObj_heap_other (by omega)).trans he)
   (fun h k=>a4 h k) (fun W o o'=>a3 W o o') I E H q Ax a0 (fun b x W K=>f _ b x W K) (fun b x j W ⟨r,i,_⟩=>u _ b x j W (by omega) ⟨r,i⟩) b x V v1 v2 v3 M
 ·rintro e V ⟨⟨v,rfl⟩,(⟨xs,hS,k1,A,k3⟩|⟨b,hS,c,k1,A,k3⟩)⟩
  ·exact⟨G,_,run_endLoop (P:=P) A (by simp),y _ xs _ (z1 _) hS (H.putObj _ k1 (by omega) A rfl) ((World.putObj_heap_other (by omega)).trans k3)⟩
  ·exact⟨U c,_,run_endLoop (P:=P) A (by simp),z _ c b _ (z1 _) hS ((q c).putObj _ k1 (by omega) A rfl) ((World.putObj_heap_other (by omega)).trans k3)⟩
theorem zfy{l₀:Nat}{r₀:Loop}(a8:F.round=U l₀)(a6:w.1[l₀]?=U (.loop r₀))(h1:1<=n){gf:Nat}{lb:Array z0}(hg:a.eval g=.func (.func gf) #[] lb)(a1:F.fn gf)(eg:∀args w,(callFunc gf args).run P w=.ok (.enter gf args) w)
  {encs:α->Array z0} {Kp:O->O->Prop} {S Sp:List α->Prop} {N m:Nat} {R:O} (M:X5 F (n-1) P gf lb encs Kp S Sp N m R) (hm:m<=w.1.size+1)
  (a4:∀{X Y Z:O},Kp X Y->Kp Y Z->Kp X Z) (a3:∀(W:O) (o o':Obj),W.1[w.1.size]?=U o->o.isCells=false->o.isWalk=false->Kp W (W.putObj w.1.size o')) (H:Below R.1.size R w) (a7:∀x,(encs x).size=ps.size)
  (I:List α->O->Prop) (D:Code->List α->O->Prop) (hI:OwnFrom w.1.size I) (y:∀c,OwnFrom w.1.size (D c)) (h0:I [] w) (T:α->Act->O->Prop) (a0:∀x j,OwnFrom w.1.size (fun(_:Unit) W=>T x j W))
  (d:∀(l:Nat) (b:List α) (x:α) (W:O) (K:Act->O->Prop),I b W->(∀j E,KeepsFrom w.1.size W E->Kp W E->I b E->T x j E->K j E)->
   assign.wpIn (F.inRound l) (n-1-1) P (Exit.then K (fun _ _ _=>False)) {tmps:=(ps.zip (encs x)).foldl (fun t (p,v)=>t.setIfInBounds p v) a.tmps,defers:=[]} W)
  (z:∀(l:Nat) (b:List α) (x:α) (j:Act) (W:O),w.1.size<=l->(∃r,W.1[l]?=U (.loop r))->I b W->T x j W->b.length<N->body.wpIn (F.inRound l) (n-1-1) P (Yy w.1.size Kp I D (b++[x]) W) j W)
  (A:∀(xs:List α) (W:O),S xs->I xs W->Q .normal a W)
  (B:∀(c:Code) (b:List α) (W:O),Sp b->D c b W->c.wpIn F n P Q a W):
  (Code.rangeFunc g ps assign body).wpIn F n P Q a w:=by
 refine wpIn_rangeFunc fun fn a5=>?_
 rw[a8]
 have hz:(w.alloc (.loop {state:=.ready,pending:=G,fn,tmps:=a.tmps,params:=ps,assign,body,defers:=r₀.defers})).1.size=w.1.size+1:=by simp
 refine⟨w.1.size,[],(w.alloc (.loop {state:=.ready,pending:=G,fn,tmps:=a.tmps,params:=ps,assign,body,defers:=r₀.defers})),{target:=.fn (.func gf) lb,args:=#[.func (.yield w.1.size) #[] #[]]},(w.alloc (.loop {state:=.ready,pending:=G,fn,tmps:=a.tmps,params:=ps,assign,body,defers:=r₀.defers})),gf,#[.func (.yield w.1.size) #[] #[]]++lb,(w.alloc (.loop {state:=.ready,pending:=G,fn,tmps:=a.tmps,params:=ps,assign,body,defers:=r₀.defers})),run_enterLoop_inner a6 fn a.tmps ps assign body,by simp only[resolve,hg];simp[go_sem],fun f' J=>by simp[Target.leads]at J;subst J;exact a1,by simp[invoke,go_sem,eg],fun _=>h1,?_⟩
 have hL:(w.alloc (.loop {state:=.ready,pending:=G,fn,tmps:=a.tmps,params:=ps,assign,body,defers:=r₀.defers})).1[w.1.size]?=U (.loop {state:=.ready,pending:=G,fn,tmps:=a.tmps,params:=ps,assign,body,defers:=r₀.defers}):=World.alloc_heap_new w _
 have hB:Below R.1.size R (w.alloc (.loop {state:=.ready,pending:=G,fn,tmps:=a.tmps,params:=ps,assign,body,defers:=r₀.defers})):=H.trans (((Below.refl _ w).alloc (z1 _) _).mono H.size)
 have a2:=hI.alloc (.loop {state:=.ready,pending:=G,fn,tmps:=a.tmps,params:=ps,assign,body,defers:=r₀.defers}) h0
 generalize(w.alloc (.loop {state:=.ready,pending:=G,fn,tmps:=a.tmps,params:=ps,assign,body,defers:=r₀.defers}))=W1 at*
 refine(M w.1.size
  (fun b W=>I b W/\W.1[w.1.size]?=U (.loop {state:=.ready,pending:=G,fn,tmps:=a.tmps,params:=ps,assign,body,defers:=r₀.defers}))
  (fun b W=>∃c,D c b W/\W.1[w.1.size]?=U (.loop {state:=.done,pending:=U c,fn,tmps:=a.tmps,params:=ps,assign,body,defers:=r₀.defers}))
  W1 hB (by omega) (fun s X Y C hs f q=>⟨hI s X Y C hs.1 f (fun r e=>⟨by have:=(q r e).1;omega,(q r e).2⟩),vY f (fun r e=>(q r e).1) (by omega) hs.2⟩)
  (fun s X Y C hs f q=>by
   obtain⟨c,u,i⟩:=hs
   exact⟨c,y c s X Y C u f (fun r e=>⟨by have:=(q r e).1;omega,(q r e).2⟩),vY f (fun r e=>(q r e).1) (by omega) i⟩)
  (fun b x V hv L=>?_) ⟨a2,hL⟩).mono ?_
 ·obtain⟨v1,v2⟩:=hv
  refine(zdw (P:=P) (Kp:=Kp) (n:=n-1-1) w.1.size w.1.size fn r₀.defers a.tmps a5 (z1 _) a7 (fun _=>True) (fun _ _ _ _=>trivial) (fun _ _ _=>trivial)
   (fun h k=>a4 h k) (fun W o o'=>a3 W o o') I D hI y T a0 (fun b x W K=>d _ b x W K) (fun b x j W ⟨r,q,_⟩=>z _ b x j W (z1 _) ⟨r,q⟩) b x V v1 v2 trivial L).mono ?_
  rintro e V' (⟨e1,⟨u,i,_⟩,k3⟩|⟨e1,⟨c,u,i,_⟩,k3⟩)
  ·exact .inl ⟨e1,⟨u,i⟩,k3⟩
  ·exact .inr ⟨e1,⟨c,u,i⟩,k3⟩
 ·rintro e V ⟨⟨v,rfl⟩,(⟨xs,hS,u,i⟩|⟨b,hS,c,u,i⟩)⟩
  ·exact⟨G,_,run_endLoop (P:=P) i (by simp),A xs _ hS (hI.putObj _ u (z1 _) i rfl)⟩
  ·exact⟨U c,_,run_endLoop (P:=P) i (by simp),B c b _ hS ((y c).putObj _ u (z1 _) i rfl)⟩
end
theorem yW{F:Fence}(f:F.depth=G){m m':Nat}{P:Program}{l:Nat}{args:Array z0}{W:O}{R:Ending->O->Prop}(h:YieldAt F m P l args W R):YieldAt F m' P l args W R:=by
 obtain⟨fn,tmps,assign,body,g,a,b⟩:=h
 exact⟨fn,tmps,assign,body,g,a,fun c cs _=>b c cs (fun d e=>by rw[f]at e;cases e)⟩
def zjP(o:Obj):Prop:=∃c a,o=.cells c 148 a
theorem zhR{o:Obj}(h:o.isCells=false):¬zjP o:=fun⟨_,_,e⟩=>by rw[e]at h;cases h
structure KX(ex:Nat->Prop)(n m:Nat)(A B:O):Prop where
 kept:zo (fun k=>ex k\/n<=k) A B
 walk:∀k o,¬ex k->A.1[k]?=U o->o.isWalk=true->B.1[k]?=U o
 high:∀k o,m<=k->¬zjP o->A.1[k]?=U o->B.1[k]?=U o
section
variable {ex:Nat->Prop} {n m:Nat}
theorem KX.refl(ex:Nat->Prop)(n m:Nat)(A:O):KX ex n m A A:=⟨zo.refl _ _,fun _ _ _ h _=>h,fun _ _ _ _ h=>h⟩
theorem KX.trans{A B C:O}(h:KX ex n m A B)(k:KX ex n m B C):KX ex n m A C:=⟨h.kept.trans k.kept (fun _ _ h=>h),fun i o a b c=>k.walk i o a (h.walk i o a b c) c,fun i o a hn b=>k.high i o a hn (h.high i o a hn b)⟩
theorem KX.putObj{W:O}{l:Nat}{o:Obj}(c:Obj)(d:n<=l)(i:l<m)(h:W.1[l]?=U o)(f:o.isWalk=false):KX ex n m W (W.putObj l c):=
 ⟨(zo.refl _ _).grown (grownBy_putObj' W l c) (fun k e _=>by cases e;exact .inr d),fun k p g a b=>by
  by_cases e:k=l
  ·subst e;rw[h]at a;cases a;rw[f]at b;cases b
  ·exact(World.putObj_heap_other e).trans a,fun k p g _ a=>(World.putObj_heap_other (show k≠l by omega)).trans a⟩
theorem KX.of_below{A B:O}(h:Below A.1.size A B):KX ex n m A B:=⟨zo.of_below h,fun k o _ a _=>(h.block k (za a)).trans a,fun k o _ _ a=>(h.block k (za a)).trans a⟩
theorem KX.setCell{W:O}{g i:Nat}{v:z0}(hn:n<=g)(c:g<m):KX ex n m W (W.setCell ⟨g,i,G⟩ v):=
 ⟨(zo.refl _ _).setCell (p:=⟨g,i,G⟩) (fun _=> .inr hn) v,fun k o _ a b=>(KeepsOthers.setCell W ⟨g,i,G⟩ v).same k o a (Obj.not_cells_of_walk b),fun k o d _ a=>(Below.heap_setCell _ _ _ _ (show k≠g by omega)).trans a⟩
theorem KX.wider{m':Nat}{A B:O}(h:KX ex n m A B)(a:m<=m'):KX ex n m' A B:=⟨h.kept,h.walk,fun k o b=>h.high k o (Nat.le_trans a b)⟩
theorem KX.own{q:Nat}{w:O}{β:Type}(p:w.1.size<=q):OwnFrom q (fun(_:β) W=>KX ex n m w W):=fun s X Y l d c i=>
 have b:∀k o,w.1[k]?=U o->X.1[k]?=U o->Y.1[k]?=U o:=fun k o a h=>(c.block k (za h) (fun e=>by have:=(i k e.symm).1;have:=za a;omega)).trans h
 ⟨d.kept.trans (g:=fun k=>q<=k) ⟨c.os,c.tape,c.output,c.size,fun k a hn=>c.block k a (fun e=>hn (i k e.symm).1)⟩ (fun k a e=>by omega),fun k o f a j=>b k o a (d.walk k o f a j),fun k o f hn a=>b k o a (d.high k o f hn a)⟩
theorem KX.grown{W i:O}{d:Option Nat}(b:W.grownBy i d)(h:∀r,d=U r->(ex r\/n<=r)/\∃c f,W.1[r]?=U (.cells c 148 f)):KX ex n m W i:=
 ⟨⟨b.os,b.tape,b.output,b.size,fun k a hn=>b.block k a (fun e=>hn (h k e.symm).1)⟩,
  fun k o _ a j=>(b.block k (za a) (fun e=>by obtain⟨-,c,f,g⟩:=h k e.symm;rw[g]at a;cases a;cases j)).trans a,
  fun k o _ hn a=>(b.block k (za a) (fun e=>by obtain⟨-,c,f,g⟩:=h k e.symm;rw[g]at a;cases a;exact hn ⟨_,_,rfl⟩)).trans a⟩
theorem KX.from{A B:O}(h:KX ex n m A B){q:Nat}(d:m<=q):KeepsFrom q A B:=⟨h.kept.size,fun k o c a b=>h.high k o (Nat.le_trans d c) (zhR b) a⟩
theorem KX.low{A B:O}(h:KX ex n m A B){k:Nat}(c:k<n)(b:¬ex k)(a:k<A.1.size):B.1[k]?=A.1[k]?:=h.kept.block k a (fun e=>e.elim b (by omega))
end
def kN{α:Type}(ex:Nat->Prop)(n:Nat)(P:Program)(g:Nat)(lb:Array z0)(encs:α->Array z0)(S:List α->Prop)(N:Nat)(w:O):Prop:=
 ∀m,w.1.size<=m->X5 Fence.wide 6 P g lb encs (KX ex n m) S (fun _=>True) N m w
section
variable {P:Program} {ops:Array Oper} {md:Region.Mode} {w:O} {n:Nat} {l:Nat}
theorem Qb{o:Oper}{a:Act}{K:Act->Prop}(h:o.still P a w K):∀c,o.op≠ .defer c:=fun c e=>by
 unfold Oper.still execOp at h
 rw[e]at h
 simp only[Oper.stillUpon]at h
 revert h
 generalize b:(resolve a.eval c o.type).run P w=r
 cases r with
 |ok d w'=>simp[b]
 |halt x w'=>simp[b]
theorem YS{o:Oper}{a:Act}{K:Act->Prop}{d:Act->O->Prop}{Q':Exit->Act->O->Prop}(h:∀a,K a->d a w)(b:o.still P a w K):o.wpIn (Fence.wide.inRound l) n P a w d Q':=by
 have c:=Qb b
 unfold Oper.still at b
 unfold Oper.wpIn
 refine⟨fun _ _=>trivial,?_⟩
 rw[Oper.semAt_eq _ _ _ c]
 generalize(execOp a.eval o).run P w=r at*
 cases r with
 |ok k w'=>
  cases k<;>simp only[Oper.stillUpon]at b<;>simp only[Oper.uponIn]
  case enter f args=>
   obtain⟨rfl,v,i,hn⟩:=b
   exact⟨fun e=>by simp[Fence.inRound,Fence.wide]at e,(CallsIn.inRound l (callsIn_wide.2 i)).mono fun e p ⟨j,m⟩=>by subst j;subst m;exact h _ hn⟩
  all_goals(obtain⟨rfl,g⟩:=b;exact h _ g)
 |halt x w'=>simp only[Oper.stillUpon]at b
theorem VC{i:Nat}{a:Act}{K:Act->Prop}{c:Act->O->Prop}{Q':Exit->Act->O->Prop}(h:∀a,K a->c a w)(b:stOp P ops w i K a):wpOpIn (Fence.wide.inRound l) n P ops Q' i c a w:=by
 unfold stOp at b
 unfold wpOpIn
 split
 ·rename_i ho;simp only[ho]at b;exact h _ b
 ·rename_i o ho
  simp only[ho]at b
  split
  ·rename_i hw;simp only[hw,if_true]at b;exact YS h b
  ·rename_i hw;simp only[hw]at b;exact⟨fun _ _=>trivial,h _ b⟩
theorem jZ{k g:Nat}{L:Array Bool->Act->Prop}{Q':Exit->Act->O->Prop}(c:∀b a,L b a->wpAnyIn (Fence.wide.inRound l) n P md ops Q' g b a w):
  ∀(f:Nat) (b:Array Bool) (a:Act),wpAnyL P md ops w k L f b a->wpAnyIn (Fence.wide.inRound l) n P md ops Q' (f+g) b a w
 |0,b,a,h=>by rw[Nat.zero_add];exact c _ _ h
 |f+1,b,a,h=>by
  rw[show f+1+g=(f+g)+1 by omega]
  exact⟨fun j=>absurd j h.1,fun i m=>VC (fun d e=>jZ c f _ d e) (h.2 i m).2⟩
theorem ZF{F:Fence}{Q':Exit->Act->O->Prop}:∀(c:List Oper) (k:Nat) (b:Array Bool) (a:Act) (w:O),(∀j,c[j]?=ops[k+j]?)->
  Region.seqB md ops c.length k b=true->wpListIn F n P ops Q' c a w->wpAnyIn F n P md ops Q' c.length b a w
 |[],_,_,_,_,_,d,h=>⟨by simpa[Region.seqB]using d,h⟩
 |o::c,k,b,a,w,l,d,h=>by
  have q:ops[k]?=U o:=by simpa using(l 0).symm
  simp only[List.length_cons,Region.seqB,Bool.and_eq_true,decide_eq_true_eq]at d
  refine⟨fun f=>(by rw[d.1]at f;cases f),fun i g=>?_⟩
  rw[d.1]at g
  have e:i=k:=by simpa using g
  subst e
  have r:wpOpIn F n P ops Q' i (wpListIn F n P ops Q' c) a w:=by unfold wpOpIn;simp only[q];exact h
  exact wpOpIn_mono (fun m w' p=>ZF c (i+1) _ m w' (fun j=>by have:=l (j+1);simpa[Nat.add_assoc,Nat.add_comm 1 j]using this) d.2 p) r
theorem jA{id:Nat}{Q:Exit->Act->O->Prop}{a:Act}{w:O}{b:List Oper}(k:Nat)(x:P.follows .mixedOrders=true)(q:Region.lexTailB .any b.toArray k=true)
  (h:wpStill P b.toArray w.drew (fun o=>wpListIn (Fence.wide.inRound l) n P b.toArray Q (b.drop k) o w.drew) (b.take k) a):(Code.region id b.toArray true).wpIn (Fence.wide.inRound l) n P Q a w:=by
 simp only[Region.lexTailB,Bool.and_eq_true,decide_eq_true_eq]at q
 obtain⟨⟨⟨⟨i,hn⟩,z⟩,v⟩,f⟩:=q
 have y:k<b.length:=by simpa using hn
 have c:(b.take k).length=k:=by simp;omega
 have e:(b.drop k).length=b.toArray.size-k:=by simp
 have m:HeadInv .any b.toArray k (Array.replicate b.toArray.size false):=
  ⟨by simp,fun j B _ u=>(by rw[getD_replicate_false]at u;cases u),fun t _ A=>getD_in (by simpa using A) (getD_replicate_false _ _)⟩
 have H:=wpAnyL_lex (md:=.any) (g:=b.toArray.size-k) i z v hn (b.take k) 0 _ a (fun j s=>by
  have p:j<k:=by rw[c]at s;exact s
  simp[p]) (by simpa using c) m (by rw[c];exact f) h
 refine wpIn_region_any x ?_
 have:=jZ (l:=l) (n:=n) (Q':=Q) (g:=b.toArray.size-k) (fun d o r=>by
  have:=ZF (F:=Fence.wide.inRound l) (n:=n) (md:=.any) (Q':=Q) (b.drop k) k d o w.drew (fun j=>by simp[List.getElem?_drop]) (by rw[e];exact r.1) r.2
  rwa[e]at this) _ _ _ H
 rw[c,show k+(b.toArray.size-k)=b.toArray.size by omega]at this
 exact this
theorem xo{id:Nat}{Q:Exit->Act->O->Prop}{a:Act}{w:O}{b:List Oper}(k:Nat)(e:P.follows .mixedOrders=true)(d:Region.lexTailB .any b.toArray k=true)
  (h:wpStill P b.toArray w.drew (fun c=>wpList P b.toArray Q (b.drop k) c w.drew) (b.take k) a):(Code.region id b.toArray true).wp P Q a w:=wp_region_still_tail k e d h
end
end Go.Proofs.YtndhpgciopcncaaGreatDoor
