import Derived.Test.YtndhpgciopcncaaGreatDoorHLater
import Derived.Maps.Keyed
import Derived.Maps.RangeRun
import Derived.RangeFuncOwn
import Derived.RangeFuncNested
import Derived.RangeFuncBound
import Derived.RangeFuncCalls
import Derived.RangeFuncLeaves
import Derived.StillTail
import Derived.StillTactics
import Derived.OrdersIn
import Derived.TacticsIn
open Option renaming some → G
open Go renaming World → z0
open Option renaming none → z1
open Nat renaming le_refl → z2
open Go renaming Value → z3
set_option linter.unusedVariables false
namespace Go.Proofs.YtndhpgciopcncaaGreatDoor
open Go.RowKit Go.Maps
open Go.ChangeMaps (setBlock modify_eq_set)
variable {es:Array MapEntry} {b clock:Nat} {w w':z0}
structure MK(α β:Type) where
 P:Program
 T:TypeId
 K:TypeId
 E:TypeId
 ke:α->z3
 ve:β->z3
 wf:α->Prop
 z:z3
structure MK.Ok{α β:Type}(M:MK α β):Prop where
 law:Keyed M.P M.K
 und:M.P.underlying M.T=G (.map M.K M.E)
 key:∀a,M.wf a->∃kl,keyOf M.P M.K (M.ke a)=G kl
 inj:∀a b,M.ke a=M.ke b->a=b
 zero:∀w,(zeroValue M.E).run M.P w=.ok M.z w
section
variable {α β:Type}
def zk(L:List (α×β)):List α:=L.map (·.1)
structure jd(M:MK α β)(es:Array MapEntry)(clock:Nat)(L:List (α×β)):Prop where
 kv:es.toList.map (fun e=>(e.key,e.val))=L.map (fun p=>(M.ke p.1,M.ve p.2))
 born:∀e∈es.toList,e.born<clock
 once:(es.toList.map (·.born)).Nodup
 wf:∀p∈L,M.wf p.1
 nodup:(zk L).Nodup
 size:es.size<=maxLen
def xi(M:MK α β)(w:z0)(b:Nat)(L:List (α×β)):Prop:=∃es clock,w.1[b]?=G (.map es clock)/\jd M es clock L
variable {M:MK α β}
theorem xi.lt{L:List (α×β)}(h:xi M w b L):b<w.1.size:=by
 obtain⟨es,clock,a,_⟩:=h;exact zd a
theorem xi.kept{f:Nat->Prop}{L:List (α×β)}(h:xi M w b L)(d:zi f w w')(hn:¬f b):xi M w' b L:=by
 obtain⟨es,clock,a,c⟩:=h;exact⟨es,clock,d.heap a hn,c⟩
theorem xi.later{L:List (α×β)}(h:xi M w b L)(a:Below w.1.size w w'):xi M w' b L:=
 h.kept (f:=fun _=>False) (zi.of_below a) (fun h=>h)
theorem xi.wf{L:List (α×β)}(h:xi M w b L):∀p∈L,M.wf p.1:=by obtain⟨es,clock,c,a⟩:=h;exact a.wf
theorem xi.nodup{L:List (α×β)}(h:xi M w b L):(zk L).Nodup:=by obtain⟨es,clock,c,a⟩:=h;exact a.nodup
theorem xi.made(w:z0):xi M (w.alloc (.map #[] 0)) w.1.size []:=⟨#[],0,World.alloc_heap_new w _,⟨rfl,by simp,by simp,by simp,by simp[zk],by simp⟩⟩
theorem xi.same{L:List (α×β)}(h:xi M w b L)(c:w'.1[b]?=w.1[b]?):xi M w' b L:=by
 obtain⟨es,clock,a,d⟩:=h;exact⟨es,clock,c.trans a,d⟩
theorem jd.keys(ok:M.Ok){L:List (α×β)}(h:jd M es clock L):∀e∈es.toList,∃l,keyOf M.P M.K e.key=G l:=fun e b=>by
 have c:(e.key,e.val)∈L.map (fun p=>(M.ke p.1,M.ve p.2)):=h.kv▸List.mem_map.2 ⟨e,b,rfl⟩;obtain⟨p,d,a⟩:=List.mem_map.1 c;injection a with a f;rw[<-a];exact ok.key _ (h.wf p d)
theorem jd.at{L:List (α×β)}(h:jd M es clock L){j:Nat}{e:MapEntry}(c:es.toList[j]?=G e):∃p,L[j]?=G p/\e.key=M.ke p.1/\e.val=M.ve p.2:=by
 have a:(es.toList.map (fun e=>(e.key,e.val)))[j]?=G (e.key,e.val):=by simp[c]
 rw[h.kv,List.getElem?_map]at a;cases b:L[j]? with
 |none=>simp[b]at a
 |some p=>
  rw[b]at a;simp at a;exact⟨p,rfl,a.1.symm,a.2.symm⟩
theorem jd.absent{L:List (α×β)}(h:jd M es clock L){s:α}(c:∀e∈es.toList,e.key≠M.ke s):s∉zk L:=fun d=>by
 obtain⟨p,f,e⟩:=List.mem_map.1 (show s∈L.map (·.1)from d);have a:(M.ke p.1,M.ve p.2)∈es.toList.map (fun e=>(e.key,e.val)):=h.kv▸List.mem_map.2 ⟨p,f,rfl⟩;obtain⟨x,g,ex⟩:=List.mem_map.1 a;injection ex with b i;exact c x g (by rw[b,e])
theorem jd.count{L:List (α×β)}(h:jd M es clock L):es.size=L.length:=by
 have:=congrArg List.length h.kv;simpa using this
theorem zlT(ok:M.Ok){L:List (α×β)}(h:xi M w b L)(d:TypeId):(Builtin.len_ #[M.T] d #[.map (G b)]).run M.P w=.ok (I L.length) w:=by
 obtain⟨es,clock,a,c⟩:=h;have:=c.count;simp[Builtin.len_,run_underlying ok.und,MapKept.run_getObj_map a,goInt,Result.andThen,this]
end
section
variable {α β:Type} [DecidableEq α]
def zE(L:List (α×β))(a:α):Option β:=(L.find? (fun p=>decide (p.1=a))).map (·.2)
def qj(L:List (α×β))(a:α)(v:β):List (α×β):=if a∈zk L then L.map (fun p=>if p.1=a then(a,v)else p)else L++[(a,v)]
def zT(L:List (α×β))(a:α):List (α×β):=L.filter (fun p=>decide (p.1≠a))
theorem xy{L:List (α×β)}{a:α}:zE L a=z1↔a∉zk L:=by
 unfold zE zk;rw[Option.map_eq_none_iff,List.find?_eq_none];constructor
 ·intro h c;obtain⟨p,b,e⟩:=List.mem_map.1 c;exact h p b (by simpa using e)
 ·intro h p b e;exact h (List.mem_map.2 ⟨p,b,by simpa using e⟩)
theorem zA{L:List (α×β)}{a:α}{v:β}(h:zE L a=G v):(a,v)∈L:=by
 unfold zE at h;obtain⟨p,b,e⟩:=Option.map_eq_some_iff.1 h;have c:=List.mem_of_find?_eq_some b;have d:=List.find?_some b;have f:p.1=a:=by simpa using d
 subst f;subst e;exact c
theorem xt{L:List (α×β)}(hn:(zk L).Nodup){a:α}{v:β}(h:(a,v)∈L):zE L a=G v:=by
 cases g:zE L a with
 |none=>exact absurd (List.mem_map.2 ⟨_,h,rfl⟩) (xy.1 g)
 |some u=>
  have m:=zA g;have d:L.Pairwise (fun a b=>a.1≠b.1):=List.pairwise_map.1 hn;obtain⟨i,k,f⟩:=List.getElem_of_mem m;obtain⟨j,l,e⟩:=List.getElem_of_mem h;rcases Nat.lt_trichotomy i j with c|c|c
  ·have:=List.pairwise_iff_getElem.1 d i j k l c;rw[f,e]at this;exact absurd rfl this
  ·subst c;rw[f]at e;cases e;rfl
  ·have:=List.pairwise_iff_getElem.1 d j i l k c;rw[f,e]at this;exact absurd rfl this
theorem XX{L:List (α×β)}(hn:(zk L).Nodup){a:α}{v:β}:zE L a=G v↔(a,v)∈L:=⟨zA,xt hn⟩
theorem zZ{L:List (α×β)}{a:α}{v:β}{k:α}:k∈zk (qj L a v)↔k∈zk L\/k=a:=by
 unfold qj;split;next h=>
  have e:zk (L.map (fun p=>if p.1=a then(a,v)else p))=zk L:=by
   unfold zk;rw[List.map_map];apply List.map_congr_left;intro p _;by_cases c:p.1=a<;>simp[c]
  rw[e];exact⟨.inl,fun b=>b.elim id (fun e=>e▸h)⟩
 next h=>simp[zk]
theorem zir{L:List (α×β)}{a:α}{v:β}:zk (qj L a v)=if a∈zk L then zk L else zk L++[a]:=by
 unfold qj;split;next h=>
  unfold zk;rw[List.map_map];apply List.map_congr_left;intro p _;by_cases b:p.1=a<;>simp[b]
 next h=>simp[zk]
theorem qq{L:List (α×β)}{a:α}{v:β}(h:(zk L).Nodup):(zk (qj L a v)).Nodup:=by
 rw[zir];split;next=>exact h
 next hn=>
  rw[List.nodup_append];refine⟨h,by simp,fun x b y c e=>?_⟩;simp at c;rw[c]at e;rw[e]at b;exact hn b
theorem ym{L:List (α×β)}{a:α}{v:β}{p:α×β}(h:p∈qj L a v):p=(a,v)\/(p∈L/\p.1≠a):=by
 unfold qj at h;split at h;next hin=>
  obtain⟨q,c,e⟩:=List.mem_map.1 h;by_cases b:q.1=a
  ·rw[if_pos b]at e;exact .inl e.symm
  ·rw[if_neg b]at e;subst e;exact .inr ⟨c,b⟩
 next hn=>
  rcases List.mem_append.1 h with h|h
  ·exact .inr ⟨h,fun e=>hn (List.mem_map.2 ⟨p,h,e⟩)⟩
  ·simp at h;exact .inl h
theorem vd{L:List (α×β)}(hn:(zk L).Nodup)(a:α)(v:β)(k:α):zE (qj L a v) k=if k=a then G v else zE L k:=by
 have c:=qq (a:=a) (v:=v) hn;split;next h=>
  subst h;refine xt c ?_;unfold qj;split;next hin=>
   obtain⟨q,f,e⟩:=List.mem_map.1 hin;exact List.mem_map.2 ⟨q,f,by rw[if_pos e]⟩
  next=>simp
 next h=>
  cases d:zE L k with
  |none=>exact xy.2 (fun b=>by
   rcases zZ.1 b with b|b
   ·exact xy.1 d b
   ·exact h b)
  |some u=>
   refine xt c ?_;have b:=zA d;unfold qj;split;next=>exact List.mem_map.2 ⟨_,b,by rw[if_neg h]⟩
   next=>exact List.mem_append_left _ b
theorem zS{L:List (α×β)}{a:α}{p:α×β}:p∈zT L a↔p∈L/\p.1≠a:=by unfold zT;simp
theorem Q9{L:List (α×β)}{a:α}:zk (zT L a)=(zk L).filter (fun k=>decide (k≠a)):=by
 unfold zk zT;rw[List.filter_map];rfl
theorem qa{L:List (α×β)}{a:α}(h:(zk L).Nodup):(zk (zT L a)).Nodup:=by rw[Q9];exact h.filter _
theorem jR{L:List (α×β)}(hn:(zk L).Nodup)(a k:α):zE (zT L a) k=if k=a then z1 else zE L k:=by
 split;next h=>
  subst h;exact xy.2 (by rw[Q9];simp)
 next h=>
  cases b:zE L k with
  |none=>exact xy.2 (by rw[Q9];simp;intro c;exact absurd c (xy.1 b))
  |some u=>exact xt (qa hn) (zS.2 ⟨zA b,h⟩)
theorem vB{L:List (α×β)}{a:α}{v:β}:(qj L a v).length=if a∈zk L then L.length else L.length+1:=by
 unfold qj;split<;>simp
theorem Vm{L:List (α×β)}{a:α}:(zT L a).length<=L.length:=List.length_filter_le _ _
variable {M:MK α β}
def zor(M:MK α β)(c:Bool)(o:Option β):z3:=match o with
 |none=>if c then .tuple #[M.z,.bool false]else M.z
 |some v=>if c then .tuple #[M.ve v,.bool true]else M.ve v
theorem kK(ok:M.Ok)(c:Bool){L:List (α×β)}(h:xi M w b L){s:α}(o:M.wf s):
  (Instr.lookup M.T (.map (G b)) (M.ke s) c).run M.P w=.ok (zor M c (zE L s)) w:=by
 obtain⟨es,clock,k,d⟩:=h;obtain⟨r,a⟩:=ok.key s o;rcases ok.law.find w a es.toList (d.keys ok)with⟨e,f⟩|⟨j,q,e,f,l⟩
 ·have g:zE L s=z1:=xy.2 (d.absent f);simp[Instr.lookup,run_underlying ok.und,MapKept.run_getObj_map k,ok.law.check w _ a,e,ok.zero w,Result.andThen,zor,g]
 ·obtain⟨p,n,m,hv⟩:=d.at f;have i:p.1=s:=ok.inj _ _ (m.symm.trans l);have g:zE L s=G p.2:=by rw[<-i];exact xt d.nodup (List.mem_of_getElem? n)
  simp[Instr.lookup,run_underlying ok.und,MapKept.run_getObj_map k,ok.law.check w _ a,e,Result.andThen,zor,g,hv]
theorem xZ(o:Obj):zi (fun k=>k=b) w (setBlock w b o):=⟨rfl,rfl,rfl,by simp[setBlock],fun k c a=>by
  simp only[setBlock];rw[Array.getElem?_setIfInBounds_ne (fun e=>a e.symm)]⟩
theorem jK(ok:M.Ok){L:List (α×β)}(h:xi M w b L)(K:L.length<maxLen){s:α}(N:M.wf s)(v:β):
  ∃o,(Instr.mapUpdate M.T (.map (G b)) (M.ke s) (M.ve v)).run M.P w=.ok () (setBlock w b o)/\xi M (setBlock w b o) b (qj L s v)/\zi (fun k=>k=b) w (setBlock w b o)/\o.isCells=false:=by
 have F:=h.lt;have y:∀o,(setBlock w b o).1[b]?=G o:=fun o=>by simp[setBlock,F]
 obtain⟨es,clock,C,d⟩:=h;obtain⟨kl,n⟩:=ok.key s N;rcases ok.law.find w n es.toList (d.keys ok)with⟨E,t⟩|⟨j,u,E,t,S⟩
 ·have W:s∉zk L:=d.absent t;refine⟨.map (es.push ⟨M.ke s,M.ve v,clock⟩) (clock+1),?_,⟨_,_,y _,?_⟩,xZ _,rfl⟩
  ·simp[Instr.mapUpdate,run_underlying ok.und,MapKept.run_getObj_map C,ok.law.check w false n,E,MapKept.run_setObj_map _ C,Result.andThen,setBlock]
  ·have g:qj L s v=L++[(s,v)]:=(by unfold qj;rw[if_neg W]);refine⟨by rw[g];simp[d.kv],?_,?_,?_,qq d.nodup,by have:=d.count;simp;omega⟩
   ·intro x m;simp at m;rcases m with m|rfl
    ·have:=d.born x (by simpa using m);omega
    ·simp
   ·rw[Array.toList_push,List.map_append,List.nodup_append];refine⟨d.once,by simp,fun a V c U=>?_⟩;simp at U;subst U;obtain⟨x,m,rfl⟩:=List.mem_map.1 V;have:=d.born x m;omega
   ·rw[g];intro p g;rcases List.mem_append.1 g with g|g
    ·exact d.wf p g
    ·simp at g;subst g;exact N
 ·obtain⟨p,g,Z,hv⟩:=d.at t;have r:p.1=s:=ok.inj _ _ (Z.symm.trans S);have Y:es[j]?=G u:=by simpa using t
  have H:s∈zk L:=by unfold zk;exact List.mem_map.2 ⟨p,List.mem_of_getElem? g,r⟩
  have f:(es.modify j (fun D=>{D with key:=M.ke s,val:=M.ve v})).toList=es.toList.set j {u with key:=M.ke s,val:=M.ve v}:=by rw[Array.toList_modify,modify_eq_set _ _ _ _ t]
  refine⟨.map (es.modify j (fun D=>{D with key:=M.ke s,val:=M.ve v})) clock,?_,⟨_,_,y _,?_⟩,xZ _,rfl⟩
  ·simp[Instr.mapUpdate,run_underlying ok.und,MapKept.run_getObj_map C,ok.law.check w false n,E,Y,S,ok.law.stays w n,MapKept.run_setObj_map _ C,Result.andThen,setBlock]
  ·have A:qj L s v=L.set j (s,v):=by
    unfold qj;rw[if_pos H];apply List.ext_getElem?;intro i;rw[List.getElem?_map,List.getElem?_set];by_cases e:j=i
    ·subst e;have l:j<L.length:=(List.getElem?_eq_some_iff.1 g).1;rw[g];simp only[Option.map_some,r,if_true,l]
    ·rw[if_neg e];cases X:L[i]? with
     |none=>simp
     |some q=>
      have I:q.1≠s:=fun R=>by
       have B:L.Pairwise (fun a b=>a.1≠b.1):=List.pairwise_map.1 d.nodup;obtain⟨z,O⟩:=List.getElem?_eq_some_iff.1 X;obtain⟨l,Q⟩:=List.getElem?_eq_some_iff.1 g;rcases Nat.lt_or_gt_of_ne e with h|h
       ·have:=List.pairwise_iff_getElem.1 B j i l z h;rw[O,Q]at this;exact this (r.trans R.symm)
       ·have:=List.pairwise_iff_getElem.1 B i j z l h;rw[O,Q]at this;exact this (R.trans r.symm)
      simp[I]
   refine⟨?_,?_,?_,?_,qq d.nodup,by simpa using d.size⟩
   ·rw[f,A,List.map_set,List.map_set,d.kv]
   ·intro x m;rw[f]at m;rcases List.mem_or_eq_of_mem_set m with m|rfl
    ·exact d.born x m
    ·exact d.born u (List.mem_of_getElem? t)
   ·rw[f,List.map_set];have:(es.toList.map (·.born)).set j u.born=es.toList.map (·.born):=by
     apply List.ext_getElem?;intro i;rw[List.getElem?_set];by_cases e:j=i
     ·subst e;have l:j<es.toList.length:=(List.getElem?_eq_some_iff.1 t).1;simp only[List.length_map,l,if_true,List.getElem?_map,t,Option.map_some]
     ·rw[if_neg e]
    show((es.toList.map (·.born)).set j u.born).Nodup;rw[this];exact d.once
   ·intro q J;rcases ym J with rfl|⟨J,_⟩
    ·exact N
    ·exact d.wf q J
theorem YF(ok:M.Ok){L:List (α×β)}(C:w.1[b]?=G (.map es clock))(f:jd M es clock L){s:α}(X:M.wf s)(Z:TypeId):
  ∃l,(Builtin.delete_ #[M.T,M.K] Z #[.map (G b),M.ke s]).run M.P w=.ok (.tuple #[]) (setBlock w b (.map l clock))/\jd M l clock (zT L s)/\(∀e,e∈l.toList↔e∈es.toList/\e.key≠M.ke s):=by
 obtain⟨kl,m⟩:=ok.key s X;rcases ok.law.find w m es.toList (f.keys ok)with⟨E,t⟩|⟨j,e0,E,t,O⟩
 ·have U:s∉zk L:=f.absent t;have F:zT L s=L:=by
   unfold zT;rw[List.filter_eq_self];intro p z;simp;intro e;exact U (List.mem_map.2 ⟨p,z,e⟩)
  refine⟨es,?_,by rw[F];exact f,fun e=>⟨fun h=>⟨h,t e h⟩,fun h=>h.1⟩⟩;simp[Builtin.delete_,run_underlying ok.und,MapKept.run_getObj_map C,ok.law.check w _ m,E,MapKept.run_setObj_map _ C,Result.andThen,setBlock]
 ·obtain⟨p,z,W,hv⟩:=f.at t;have o:p.1=s:=ok.inj _ _ (W.symm.trans O);have H:j<es.toList.length:=(List.getElem?_eq_some_iff.1 t).1;have I:j<es.size:=by simpa using H
  have d:(es.eraseIdxIfInBounds j).toList=es.toList.eraseIdx j:=by
   unfold Array.eraseIdxIfInBounds;rw[dif_pos I];simp
  have A:L.Pairwise (fun a b=>a.1≠b.1):=List.pairwise_map.1 f.nodup;have v:j<L.length:=(List.getElem?_eq_some_iff.1 z).1;have c:∀i q,L[i]?=G q->i≠j->q.1≠s:=fun i q g n N=>by
   obtain⟨u,r⟩:=List.getElem?_eq_some_iff.1 g;obtain⟨_,B⟩:=List.getElem?_eq_some_iff.1 z;rcases Nat.lt_or_gt_of_ne n with h|h
   ·have:=List.pairwise_iff_getElem.1 A i j u v h;rw[r,B]at this;exact this (N.trans o.symm)
   ·have:=List.pairwise_iff_getElem.1 A j i v u h;rw[r,B]at this;exact this (o.trans N.symm)
  have F:zT L s=L.eraseIdx j:=by
   have R:L=L.take j++p::L.drop (j+1):=by
    obtain⟨y,B⟩:=List.getElem?_eq_some_iff.1 z;rw[<-B,<-List.drop_eq_getElem_cons y];exact(List.take_append_drop j L).symm
   have Y:∀q∈L.take j,q.1≠s:=fun q k=>by
    obtain⟨i,g,r⟩:=List.getElem_of_mem k;have V:i<j:=(by simp at g;omega);exact c i q (by rw[<-r];simp[List.getElem_take]) (by omega)
   have t2:∀q∈L.drop (j+1),q.1≠s:=fun q k=>by
    obtain⟨i,g,r⟩:=List.getElem_of_mem k;exact c (j+1+i) q (by rw[<-r];simp at g ⊢) (by omega)
   rw[List.eraseIdx_eq_take_drop_succ];unfold zT
   conv=>lhs;rw[R]
   rw[List.filter_append,List.filter_cons_of_neg (by simp[o]),List.filter_eq_self.2 (fun q k=>by simpa using Y q k),List.filter_eq_self.2 (fun q k=>by simpa using t2 q k)]
  refine⟨es.eraseIdxIfInBounds j,?_,⟨?_,?_,?_,?_,qa f.nodup,?_⟩,?_⟩
  ·simp[Builtin.delete_,run_underlying ok.und,MapKept.run_getObj_map C,ok.law.check w _ m,E,MapKept.run_setObj_map _ C,Result.andThen,setBlock]
  ·rw[d,F,Go.ChangeMaps.map_eraseIdx,Go.ChangeMaps.map_eraseIdx,f.kv]
  ·intro x Q;rw[d]at Q;exact f.born x ((List.eraseIdx_sublist _ _).subset Q)
  ·rw[d];exact f.once.sublist ((List.eraseIdx_sublist _ _).map _)
  ·intro q k;exact f.wf q (zS.1 k).1
  ·have:=MapFrom.size_erase es j;have:=f.size;omega
  ·intro e;rw[d];constructor
   ·intro h;refine⟨(List.eraseIdx_sublist _ _).subset h,fun D=>?_⟩;obtain⟨i,n,g⟩:=List.mem_eraseIdx_iff_getElem?.1 h;obtain⟨q,k,J,_⟩:=f.at g;exact c i q k n (ok.inj _ _ (J.symm.trans D))
   ·rintro⟨h,D⟩;obtain⟨i,g⟩:=List.mem_iff_getElem?.1 h;refine List.mem_eraseIdx_iff_getElem?.2 ⟨i,fun S=>?_,g⟩;subst S;rw[t]at g;cases g;exact D O
end
end Go.Proofs.YtndhpgciopcncaaGreatDoor
namespace Go.Proofs.YtndhpgciopcncaaGreatDoor
open Go.RowKit
variable {a:Act} {K:Act->Prop} {K':Act->z0->Prop} {lb:Array z3} {Q Q':Exit->Act->z0->Prop} {F:Fence} {ls:List Oper} {N g gf i id k l m m' n q:Nat} {o:Obj} {row:Option Nat} {P:Program} {A B W W' w w0:z0} {Kp:z0->z0->Prop}
def Yi{α:Type}(F:Fence)(n:Nat)(P:Program)(g:Nat)(lb:Array z3)(encs:α->Array z3)(Kp:z0->z0->Prop)(S Sp:List α->Prop)(N m:Nat)(w:z0):Prop:=
 ∀(l:Nat) (J c:List α->z0->Prop) (W:z0),Below w.1.size w W->m<=W.1.size->OwnFrom W.1.size J->OwnFrom W.1.size c->
  (∀a x V,J a V->a.length<N->YieldAt F (n-1) P l (encs x) V fun e b=>(e=.returned (.bool true)/\J (a++[x]) b/\Kp V b)\/(e=.returned (.bool false)/\c (a++[x]) b/\Kp V b))->
  J [] W->CallsIn F n P g (#[.func (.yield l) #[] #[]]++lb) W fun e V=>(∃v,e=.returned v)/\((∃xs,S xs/\J xs V)\/∃a,Sp a/\c a V)
theorem J7{β:Type}{B:Nat}{J:β->z0->Prop}(h:OwnFrom B J):AbidesFrom B J:=fun s W W' row g d f=>
 h s W W' row g d (fun r e=>by obtain⟨a,o,b,c⟩:=f r e;exact⟨a,o,b,Obj.not_cells_of_walk c⟩)
theorem Yi.of{α:Type}{encs:α->Array z3}{S Sp:List α->Prop}(h:SeqStopsK F n P g lb encs Kp S Sp N w):Yi F n P g lb encs Kp S Sp N m w:=
 fun l J f W k _ j c o i=>h l J f W k (J7 j) (J7 c) (fun d x V hv q=>(o d x V hv q).mono fun e r p=>p.imp id (fun⟨a,b,_⟩=>⟨a,b⟩)) i
theorem Yi.keeps{α:Type}{encs:α->Array z3}{i:z0->z0->Prop}{S Sp:List α->Prop}(h:Yi F n P g lb encs Kp S Sp N m w)(j:∀A B,i A B->Kp A B):Yi F n P g lb encs i S Sp N m w:=
 fun l J k W q u p d r o=>h l J k W q u p d (fun f x V hv t=>(r f x V hv t).mono fun e v s=>s.imp (fun⟨a,b,c⟩=>⟨a,b,j _ _ c⟩) (fun⟨a,b,c⟩=>⟨a,b,j _ _ c⟩)) o
theorem Yi.inRound{α:Type}{encs:α->Array z3}{S Sp:List α->Prop}(l:Nat)(h:Yi F n P g lb encs Kp S Sp N m w):Yi (F.inRound l) n P g lb encs Kp S Sp N m w:=h
def YA{α:Type}(B:Nat)(Kp:z0->z0->Prop)(b:List α->z0->Prop)(a:Code->List α->z0->Prop)(xs:List α)(W:z0)(e:Exit)(_:Act)(W':z0):Prop:=
 KeepsFrom B W W'/\Kp W W'/\match e with
 | .normal=>b xs W'
 | .ret=>a .ret xs W'
 | .exit id=>a (.exit id) xs W'
 | .goto t=>a (.goto t) xs W'
 | .panic _=>False
 | .outgrown=>False
theorem kD{B:Nat}(a:W.grownBy W' row)(b:∀r,row=G r->B<=r)(c:k<B)(h:W.1[k]?=G o):W'.1[k]?=G o:=
 (a.block k (zd h) (fun e=>by have:=b k e.symm;omega)).trans h
section
variable {α:Type} {F:Fence} {n:Nat} {P:Program} {ps:Array Tmp} {assign body:Code} {encs:α->Array z3} {Kp:z0->z0->Prop} {N:Nat}
theorem zdF(B l fn h:Nat)(tmps:Array z3)(hF:F.fn fn)(i:B<=l)(a2:∀x,(encs x).size=ps.size)(E:z0->Prop)(hE:∀W W',E W->KeepsFrom B W W'->E W')(w:∀W o,E W->E (W.putObj l o))(y:∀{X Y Z:z0},Kp X Y->Kp Y Z->Kp X Z)(D:∀(W:z0) (o o':Obj),W.1[l]?=G o->o.isCells=false->o.isWalk=false->Kp W (W.putObj l o'))(u:List α->z0->Prop)(C:Code->List α->z0->Prop)(hI:OwnFrom B u)(R:∀c,OwnFrom B (C c))(M:α->Act->z0->Prop)(Q:∀x m,OwnFrom B (fun(_:Unit) W=>M x m W))(k:∀(a:List α) (x:α) (W:z0) (K:Act->z0->Prop),u a W->(∀m W',KeepsFrom B W W'->Kp W W'->u a W'->M x m W'->K m W')->
   assign.wpIn (F.inRound l) n P (Exit.then K (fun _ _ _=>False)) {tmps:=(ps.zip (encs x)).foldl (fun t (p,v)=>t.setIfInBounds p v) tmps,defers:=[]} W) (z:∀(a:List α) (x:α) (m:Act) (W:z0),(∃r:Loop,W.1[l]?=G (.loop r)/\r.defers=h)->u a W->M x m W->a.length<N->body.wpIn (F.inRound l) n P (YA B Kp u C (a++[x]) W) m W) (a:List α) (x:α) (W:z0) (hi:u a W) (hl:W.1[l]?=G (.loop {state:=.ready,pending:=z1,fn,tmps,params:=ps,assign,body,defers:=h})) (he:E W) (I:a.length<N):
  YieldAt F n P l (encs x) W fun e V=>(e=.returned (.bool true)/\(u (a++[x]) V/\V.1[l]?=G (.loop {state:=.ready,pending:=z1,fn,tmps,params:=ps,assign,body,defers:=h})/\E V)/\Kp W V)\/
   (e=.returned (.bool false)/\(∃c,C c (a++[x]) V/\V.1[l]?=G (.loop {state:=.done,pending:=G c,fn,tmps,params:=ps,assign,body,defers:=h})/\E V)/\Kp W V):=by
 refine⟨fn,_,assign,body,run_yield (P:=P) (args:=encs x) hl (a2 x),roundIn_of_wpIn hF (k a x W _ hi fun m X H a1 a0 S=>?_)⟩;have j:=H.same l _ i hl rfl;have T:=hE _ _ he H;refine⟨_,run_beginRound j rfl,wpIn_mono (z a x m _ ⟨_,World.putObj_heap_same (zd j),rfl⟩ (hI.putObj _ a0 i j rfl) ((Q x m).putObj (s:=()) _ S i j rfl) I) ?_⟩;have hb:=World.putObj_heap_same (o:=.loop {state:=.busy,pending:=z1,fn,tmps,params:=ps,assign,body,defers:=h}) (zd j);have b:∀V,KeepsFrom B (X.putObj l (.loop {state:=.busy,pending:=z1,fn,tmps,params:=ps,assign,body,defers:=h})) V->V.1[l]?=G (.loop {state:=.busy,pending:=z1,fn,tmps,params:=ps,assign,body,defers:=h})/\E V:=
  fun V f=>⟨f.same l _ i hb rfl,hE _ _ (w _ _ T) f⟩
 have g:∀c V,KeepsFrom B (X.putObj l (.loop {state:=.busy,pending:=z1,fn,tmps,params:=ps,assign,body,defers:=h})) V->C c (a++[x]) V->
   C c (a++[x]) (V.putObj l (.loop {state:=.done,pending:=G c,fn,tmps,params:=ps,assign,body,defers:=h}))/\(V.putObj l (.loop {state:=.done,pending:=G c,fn,tmps,params:=ps,assign,body,defers:=h})).1[l]?=G (.loop {state:=.done,pending:=G c,fn,tmps,params:=ps,assign,body,defers:=h})/\E (V.putObj l (.loop {state:=.done,pending:=G c,fn,tmps,params:=ps,assign,body,defers:=h})):=fun c V f A=>by
  obtain⟨q,O⟩:=b V f;exact⟨(R c).putObj _ A i q rfl,World.putObj_heap_same (zd q),w _ _ O⟩
 have L:∀V o',Kp (X.putObj l (.loop {state:=.busy,pending:=z1,fn,tmps,params:=ps,assign,body,defers:=h})) V->V.1[l]?=G (.loop {state:=.busy,pending:=z1,fn,tmps,params:=ps,assign,body,defers:=h})->Kp W (V.putObj l o'):=fun V o' d q=>y a1 (y (y (D _ _ _ j rfl rfl) d) (D _ _ _ q rfl rfl));intro e a3 V J
 match e,J with
 | .normal,⟨f,d,U⟩=>
  obtain⟨q,O⟩:=b V f
  exact⟨_,_,run_endRound (P:=P) z1 q,.inl ⟨rfl,⟨hI.putObj _ U i q rfl,World.putObj_heap_same (zd q),w _ _ O⟩,L V _ d q⟩⟩
 | .ret,⟨f,d,A⟩=>exact⟨_,_,run_endRound (P:=P) (G .ret) (b V f).1,.inr ⟨rfl,⟨.ret,g .ret V f A⟩,L V _ d (b V f).1⟩⟩
 | .exit id,⟨f,d,A⟩=>exact⟨_,_,run_endRound (P:=P) (G (.exit id)) (b V f).1,.inr ⟨rfl,⟨.exit id,g (.exit id) V f A⟩,L V _ d (b V f).1⟩⟩
 | .goto t,⟨f,d,A⟩=>exact⟨_,_,run_endRound (P:=P) (G (.goto t)) (b V f).1,.inr ⟨rfl,⟨.goto t,g (.goto t) V f A⟩,L V _ d (b V f).1⟩⟩
 | .panic ch,J=>exact J.2.2.elim
 | .outgrown,J=>exact J.2.2.elim
end
section
variable {α:Type} {F:Fence} {n:Nat} {P:Program} {g:Operand} {ps:Array Tmp} {assign body:Code} {Q:Exit->Act->z0->Prop} {a:Act} {w:z0}
theorem yg(a5:F.round=z1)(h1:1<=n)(hg:a.eval g=.func (.func gf) #[] lb)(U:F.fn gf)(eg:∀args w,(callFunc gf args).run P w=.ok (.enter gf args) w){encs:α->Array z3}{S Sp:List α->Prop}(L:Yi F (n-1) P gf lb encs Kp S Sp N m w0)(hm:m<=w.1.size+2)(a2:∀{X Y Z:z0},Kp X Y->Kp Y Z->Kp X Z)(a1:∀(W:z0) (o o':Obj),W.1[w.1.size+1]?=G o->o.isCells=false->o.isWalk=false->Kp W (W.putObj (w.1.size+1) o'))(E:Below w0.1.size w0 w)(a4:∀x,(encs x).size=ps.size)(j:List α->z0->Prop)(B:Code->List α->z0->Prop)(C:OwnFrom w.1.size j)(u:∀c,OwnFrom w.1.size (B c))(h0:j [] w)(R:α->Act->z0->Prop)(T:∀x q,OwnFrom w.1.size (fun(_:Unit) W=>R x q W))(f:∀(l:Nat) (b:List α) (x:α) (W:z0) (K:Act->z0->Prop),j b W->(∀q W',KeepsFrom w.1.size W W'->Kp W W'->j b W'->R x q W'->K q W')->
   assign.wpIn (F.inRound l) (n-1-1) P (Exit.then K (fun _ _ _=>False)) {tmps:=(ps.zip (encs x)).foldl (fun t (p,v)=>t.setIfInBounds p v) a.tmps,defers:=[]} W) (y:∀(l:Nat) (b:List α) (x:α) (q:Act) (W:z0),w.1.size<=l->(∃r,W.1[l]?=G (.loop r))->j b W->R x q W->b.length<N->body.wpIn (F.inRound l) (n-1-1) P (YA w.1.size Kp j B (b++[x]) W) q W) (z:∀(D:Nat) (xs:List α) (W:z0),w.1.size<=D->S xs->j xs W->W.1[D]?=G (.deferred (G []))->Q .normal {a with defers:={target:=.collected D,args:=#[]}::a.defers} W) (A:∀(D:Nat) (c:Code) (b:List α) (W:z0),w.1.size<=D->Sp b->B c b W->W.1[D]?=G (.deferred (G []))->c.wpIn F n P Q {a with defers:={target:=.collected D,args:=#[]}::a.defers} W):
  (Code.rangeFunc g ps assign body).wpIn F n P Q a w:=by
 refine wpIn_rangeFunc fun fn a3=>?_;rw[a5];have hz:((w.alloc (.deferred (G []))).alloc (.loop {state:=.ready,pending:=z1,fn,tmps:=a.tmps,params:=ps,assign,body,defers:=w.1.size})).1.size=w.1.size+2:=by simp
 refine⟨w.1.size+1,[{target:=.collected w.1.size,args:=#[]}],((w.alloc (.deferred (G []))).alloc (.loop {state:=.ready,pending:=z1,fn,tmps:=a.tmps,params:=ps,assign,body,defers:=w.1.size})),{target:=.fn (.func gf) lb,args:=#[.func (.yield (w.1.size+1)) #[] #[]]},((w.alloc (.deferred (G []))).alloc (.loop {state:=.ready,pending:=z1,fn,tmps:=a.tmps,params:=ps,assign,body,defers:=w.1.size})),gf,#[.func (.yield (w.1.size+1)) #[] #[]]++lb,((w.alloc (.deferred (G []))).alloc (.loop {state:=.ready,pending:=z1,fn,tmps:=a.tmps,params:=ps,assign,body,defers:=w.1.size})),run_enterLoop_outer fn a.tmps ps assign body,by simp only[resolve,hg];simp[go_sem],fun f' H=>by simp[Target.leads]at H;subst H;exact U,by simp[invoke,go_sem,eg],fun _=>h1,?_⟩;have hD:((w.alloc (.deferred (G []))).alloc (.loop {state:=.ready,pending:=z1,fn,tmps:=a.tmps,params:=ps,assign,body,defers:=w.1.size})).1[w.1.size]?=G (.deferred (G [])):=(Below.heap_alloc _ _ _ (by simp)).trans (World.alloc_heap_new w _);have hL:((w.alloc (.deferred (G []))).alloc (.loop {state:=.ready,pending:=z1,fn,tmps:=a.tmps,params:=ps,assign,body,defers:=w.1.size})).1[w.1.size+1]?=G (.loop {state:=.ready,pending:=z1,fn,tmps:=a.tmps,params:=ps,assign,body,defers:=w.1.size}):=by
  have:=World.alloc_heap_new (w.alloc (.deferred (G []))) (.loop {state:=.ready,pending:=z1,fn,tmps:=a.tmps,params:=ps,assign,body,defers:=w.1.size});rwa[World.size_alloc]at this
 have hB:Below w0.1.size w0 ((w.alloc (.deferred (G []))).alloc (.loop {state:=.ready,pending:=z1,fn,tmps:=a.tmps,params:=ps,assign,body,defers:=w.1.size})):=E.trans ((((Below.refl _ w).alloc (z2 _) _).alloc (by simp) _).mono E.size);have a0:=C.alloc (.loop {state:=.ready,pending:=z1,fn,tmps:=a.tmps,params:=ps,assign,body,defers:=w.1.size}) (C.alloc (.deferred (G [])) h0);generalize((w.alloc (.deferred (G []))).alloc (.loop {state:=.ready,pending:=z1,fn,tmps:=a.tmps,params:=ps,assign,body,defers:=w.1.size}))=W1 at*;refine(L (w.1.size+1)
  (fun b W=>j b W/\W.1[w.1.size+1]?=G (.loop {state:=.ready,pending:=z1,fn,tmps:=a.tmps,params:=ps,assign,body,defers:=w.1.size})/\W.1[w.1.size]?=G (.deferred (G [])))
  (fun b W=>∃c,B c b W/\W.1[w.1.size+1]?=G (.loop {state:=.done,pending:=G c,fn,tmps:=a.tmps,params:=ps,assign,body,defers:=w.1.size})/\W.1[w.1.size]?=G (.deferred (G [])))
  W1 hB (by omega) (fun s X Y row J d i=>⟨C s X Y row J.1 d (fun r e=>⟨by have:=(i r e).1;omega,(i r e).2⟩),kD d (fun r e=>(i r e).1) (by omega) J.2.1,kD d (fun r e=>(i r e).1) (by omega) J.2.2⟩)
  (fun s X Y row J d i=>by
   obtain⟨c,M,k2,O⟩:=J;exact⟨c,u c s X Y row M d (fun r e=>⟨by have:=(i r e).1;omega,(i r e).2⟩),kD d (fun r e=>(i r e).1) (by omega) k2,kD d (fun r e=>(i r e).1) (by omega) O⟩)
  (fun b x V hv I=>?_) ⟨a0,hL,hD⟩).mono ?_
 ·obtain⟨v1,v2,v3⟩:=hv;exact zdF (P:=P) (Kp:=Kp) (n:=n-1-1) w.1.size (w.1.size+1) fn w.1.size a.tmps a3 (by omega) a4 (fun W=>W.1[w.1.size]?=G (.deferred (G []))) (fun W W' he hk=>hk.same _ _ (z2 _) he rfl) (fun W o he=>(World.putObj_heap_other (by omega)).trans he)
   (fun h k=>a2 h k) (fun W o o'=>a1 W o o') j B C u R T (fun b x W K=>f _ b x W K) (fun b x q W ⟨r,i,_⟩=>y _ b x q W (by omega) ⟨r,i⟩) b x V v1 v2 v3 I
 ·rintro e V ⟨⟨v,rfl⟩,(⟨xs,hS,M,k2,O⟩|⟨b,hS,c,M,k2,O⟩)⟩
  ·exact⟨z1,_,run_endLoop (P:=P) k2 (by simp),z _ xs _ (z2 _) hS (C.putObj _ M (by omega) k2 rfl) ((World.putObj_heap_other (by omega)).trans O)⟩
  ·exact⟨G c,_,run_endLoop (P:=P) k2 (by simp),A _ c b _ (z2 _) hS ((u c).putObj _ M (by omega) k2 rfl) ((World.putObj_heap_other (by omega)).trans O)⟩
theorem zlK{l₀:Nat}{r₀:Loop}(a5:F.round=G l₀)(a3:w.1[l₀]?=G (.loop r₀))(h1:1<=n)(hg:a.eval g=.func (.func gf) #[] lb)(T:F.fn gf)(eg:∀args w,(callFunc gf args).run P w=.ok (.enter gf args) w){encs:α->Array z3}{S Sp:List α->Prop}(I:Yi F (n-1) P gf lb encs Kp S Sp N m w0)(hm:m<=w.1.size+1)(a1:∀{X Y Z:z0},Kp X Y->Kp Y Z->Kp X Z)(a0:∀(W:z0) (o o':Obj),W.1[w.1.size]?=G o->o.isCells=false->o.isWalk=false->Kp W (W.putObj w.1.size o'))(D:Below w0.1.size w0 w)(a4:∀x,(encs x).size=ps.size)(i:List α->z0->Prop)(C:Code->List α->z0->Prop)(L:OwnFrom w.1.size i)(y:∀c,OwnFrom w.1.size (C c))(h0:i [] w)(J:α->Act->z0->Prop)(R:∀x j,OwnFrom w.1.size (fun(_:Unit) W=>J x j W))(d:∀(l:Nat) (b:List α) (x:α) (W:z0) (K:Act->z0->Prop),i b W->(∀j W',KeepsFrom w.1.size W W'->Kp W W'->i b W'->J x j W'->K j W')->
   assign.wpIn (F.inRound l) (n-1-1) P (Exit.then K (fun _ _ _=>False)) {tmps:=(ps.zip (encs x)).foldl (fun t (p,v)=>t.setIfInBounds p v) a.tmps,defers:=[]} W) (z:∀(l:Nat) (b:List α) (x:α) (j:Act) (W:z0),w.1.size<=l->(∃r,W.1[l]?=G (.loop r))->i b W->J x j W->b.length<N->body.wpIn (F.inRound l) (n-1-1) P (YA w.1.size Kp i C (b++[x]) W) j W) (A:∀(xs:List α) (W:z0),S xs->i xs W->Q .normal a W) (B:∀(c:Code) (b:List α) (W:z0),Sp b->C c b W->c.wpIn F n P Q a W):
  (Code.rangeFunc g ps assign body).wpIn F n P Q a w:=by
 refine wpIn_rangeFunc fun fn a2=>?_;rw[a5];have hz:(w.alloc (.loop {state:=.ready,pending:=z1,fn,tmps:=a.tmps,params:=ps,assign,body,defers:=r₀.defers})).1.size=w.1.size+1:=by simp
 refine⟨w.1.size,[],(w.alloc (.loop {state:=.ready,pending:=z1,fn,tmps:=a.tmps,params:=ps,assign,body,defers:=r₀.defers})),{target:=.fn (.func gf) lb,args:=#[.func (.yield w.1.size) #[] #[]]},(w.alloc (.loop {state:=.ready,pending:=z1,fn,tmps:=a.tmps,params:=ps,assign,body,defers:=r₀.defers})),gf,#[.func (.yield w.1.size) #[] #[]]++lb,(w.alloc (.loop {state:=.ready,pending:=z1,fn,tmps:=a.tmps,params:=ps,assign,body,defers:=r₀.defers})),run_enterLoop_inner a3 fn a.tmps ps assign body,by simp only[resolve,hg];simp[go_sem],fun f' E=>by simp[Target.leads]at E;subst E;exact T,by simp[invoke,go_sem,eg],fun _=>h1,?_⟩;have hL:(w.alloc (.loop {state:=.ready,pending:=z1,fn,tmps:=a.tmps,params:=ps,assign,body,defers:=r₀.defers})).1[w.1.size]?=G (.loop {state:=.ready,pending:=z1,fn,tmps:=a.tmps,params:=ps,assign,body,defers:=r₀.defers}):=World.alloc_heap_new w _;have hB:Below w0.1.size w0 (w.alloc (.loop {state:=.ready,pending:=z1,fn,tmps:=a.tmps,params:=ps,assign,body,defers:=r₀.defers})):=D.trans (((Below.refl _ w).alloc (z2 _) _).mono D.size);have U:=L.alloc (.loop {state:=.ready,pending:=z1,fn,tmps:=a.tmps,params:=ps,assign,body,defers:=r₀.defers}) h0;generalize(w.alloc (.loop {state:=.ready,pending:=z1,fn,tmps:=a.tmps,params:=ps,assign,body,defers:=r₀.defers}))=W1 at*;refine(I w.1.size
  (fun b W=>i b W/\W.1[w.1.size]?=G (.loop {state:=.ready,pending:=z1,fn,tmps:=a.tmps,params:=ps,assign,body,defers:=r₀.defers}))
  (fun b W=>∃c,C c b W/\W.1[w.1.size]?=G (.loop {state:=.done,pending:=G c,fn,tmps:=a.tmps,params:=ps,assign,body,defers:=r₀.defers}))
  W1 hB (by omega) (fun s X Y row M f q=>⟨L s X Y row M.1 f (fun r e=>⟨by have:=(q r e).1;omega,(q r e).2⟩),kD f (fun r e=>(q r e).1) (by omega) M.2⟩)
  (fun s X Y row M f q=>by
   obtain⟨c,u,k2⟩:=M;exact⟨c,y c s X Y row u f (fun r e=>⟨by have:=(q r e).1;omega,(q r e).2⟩),kD f (fun r e=>(q r e).1) (by omega) k2⟩)
  (fun b x V hv H=>?_) ⟨U,hL⟩).mono ?_
 ·obtain⟨v1,v2⟩:=hv;refine(zdF (P:=P) (Kp:=Kp) (n:=n-1-1) w.1.size w.1.size fn r₀.defers a.tmps a2 (z2 _) a4 (fun _=>True) (fun _ _ _ _=>trivial) (fun _ _ _=>trivial)
   (fun h k=>a1 h k) (fun W o o'=>a0 W o o') i C L y J R (fun b x W K=>d _ b x W K) (fun b x j W ⟨r,q,_⟩=>z _ b x j W (z2 _) ⟨r,q⟩) b x V v1 v2 trivial H).mono ?_
  rintro e V' (⟨O,⟨u,k2,_⟩,k3⟩|⟨O,⟨c,u,k2,_⟩,k3⟩)
  ·exact .inl ⟨O,⟨u,k2⟩,k3⟩
  ·exact .inr ⟨O,⟨c,u,k2⟩,k3⟩
 ·rintro e V ⟨⟨v,rfl⟩,(⟨xs,hS,u,k2⟩|⟨b,hS,c,u,k2⟩)⟩
  ·exact⟨z1,_,run_endLoop (P:=P) k2 (by simp),A xs _ hS (L.putObj _ u (z2 _) k2 rfl)⟩
  ·exact⟨G c,_,run_endLoop (P:=P) k2 (by simp),B c b _ hS ((y c).putObj _ u (z2 _) k2 rfl)⟩
end
theorem vt(f:F.depth=z1){args:Array z3}{R:Ending->z0->Prop}(h:YieldAt F m P l args W R):YieldAt F m' P l args W R:=by
 obtain⟨fn,tmps,assign,body,g,a,b⟩:=h;exact⟨fn,tmps,assign,body,g,a,fun c cs _=>b c cs (fun d e=>by rw[f]at e;cases e)⟩
def zqO(o:Obj):Prop:=∃c a,o=.cells c 148 a
theorem zoL(h:o.isCells=false):¬zqO o:=fun⟨_,_,e⟩=>by rw[e]at h;cases h
structure KX(ex:Nat->Prop)(n m:Nat)(A B:z0):Prop where
 kept:zi (fun k=>ex k\/n<=k) A B
 walk:∀k o,¬ex k->A.1[k]?=G o->o.isWalk=true->B.1[k]?=G o
 high:∀k o,m<=k->¬zqO o->A.1[k]?=G o->B.1[k]?=G o
section
variable {ex:Nat->Prop} {n m:Nat}
theorem KX.refl(ex:Nat->Prop)(n m:Nat)(A:z0):KX ex n m A A:=⟨zi.refl _ _,fun _ _ _ h _=>h,fun _ _ _ _ h=>h⟩
theorem KX.trans{C:z0}(h:KX ex n m A B)(k:KX ex n m B C):KX ex n m A C:=⟨h.kept.trans k.kept (fun _ _ h=>h),fun i o a b c=>k.walk i o a (h.walk i o a b c) c,fun i o a hn b=>k.high i o a hn (h.high i o a hn b)⟩
theorem KX.putObj(o':Obj)(c:n<=l)(g:l<m)(h:W.1[l]?=G o)(d:o.isWalk=false):KX ex n m W (W.putObj l o'):=
 ⟨(zi.refl _ _).grown (grownBy_putObj' W l o') (fun k e _=>by cases e;exact .inr c),fun k p f a b=>by
  by_cases e:k=l
  ·subst e;rw[h]at a;cases a;rw[d]at b;cases b
  ·exact(World.putObj_heap_other e).trans a,fun k p f _ a=>(World.putObj_heap_other (show k≠l by omega)).trans a⟩
theorem KX.of_below(h:Below A.1.size A B):KX ex n m A B:=⟨zi.of_below h,fun k o _ a _=>(h.block k (zd a)).trans a,fun k o _ _ a=>(h.block k (zd a)).trans a⟩
theorem KX.setCell{v:z3}(hn:n<=g)(c:g<m):KX ex n m W (W.setCell (U g i) v):=
 ⟨(zi.refl _ _).setCell (p:=(U g i)) (fun _=> .inr hn) v,fun k o _ a b=>(KeepsOthers.setCell W (U g i) v).same k o a (Obj.not_cells_of_walk b),fun k o d _ a=>(Below.heap_setCell _ _ _ _ (show k≠g by omega)).trans a⟩
theorem KX.wider(h:KX ex n m A B)(a:m<=m'):KX ex n m' A B:=⟨h.kept,h.walk,fun k o b=>h.high k o (Nat.le_trans a b)⟩
theorem KX.own{β:Type}(l:w.1.size<=q):OwnFrom q (fun(_:β) W=>KX ex n m w W):=fun s X Y row d c i=>
 have b:∀k o,w.1[k]?=G o->X.1[k]?=G o->Y.1[k]?=G o:=fun k o a h=>(c.block k (zd h) (fun e=>by have:=(i k e.symm).1;have:=zd a;omega)).trans h
 ⟨d.kept.trans (g:=fun k=>q<=k) ⟨c.os,c.tape,c.output,c.size,fun k a hn=>c.block k a (fun e=>hn (i k e.symm).1)⟩ (fun k a e=>by omega),fun k o f a j=>b k o a (d.walk k o f a j),fun k o f hn a=>b k o a (d.high k o f hn a)⟩
theorem KX.grown(b:W.grownBy W' row)(g:∀r,row=G r->(ex r\/n<=r)/\∃c d,W.1[r]?=G (.cells c 148 d)):KX ex n m W W':=
 ⟨⟨b.os,b.tape,b.output,b.size,fun k a hn=>b.block k a (fun e=>hn (g k e.symm).1)⟩,
  fun k o _ a h=>(b.block k (zd a) (fun e=>by obtain⟨-,c,d,f⟩:=g k e.symm;rw[f]at a;cases a;cases h)).trans a,
  fun k o _ hn a=>(b.block k (zd a) (fun e=>by obtain⟨-,c,d,f⟩:=g k e.symm;rw[f]at a;cases a;exact hn ⟨_,_,rfl⟩)).trans a⟩
theorem KX.from(h:KX ex n m A B)(d:m<=q):KeepsFrom q A B:=⟨h.kept.size,fun k o c a b=>h.high k o (Nat.le_trans d c) (zoL b) a⟩
theorem KX.low(h:KX ex n m A B)(c:k<n)(b:¬ex k)(a:k<A.1.size):B.1[k]?=A.1[k]?:=h.kept.block k a (fun e=>e.elim b (by omega))
end
def jx{α:Type}(ex:Nat->Prop)(n:Nat)(P:Program)(g:Nat)(lb:Array z3)(encs:α->Array z3)(S:List α->Prop)(N:Nat)(w:z0):Prop:=
 ∀m,w.1.size<=m->Yi Fence.wide 6 P g lb encs (KX ex n m) S (fun _=>True) N m w
section
variable {P:Program} {ops:Array Oper} {md:Region.Mode} {w:z0} {n:Nat} {l:Nat}
theorem KZ{o:Oper}(h:o.still P a w K):∀c,o.op≠ .defer c:=fun c e=>by
 unfold Oper.still execOp at h;rw[e]at h;simp only[Oper.stillUpon]at h
 revert h
 generalize b:(resolve a.eval c o.type).run P w=r;cases r with
 |ok d w'=>simp[b]
 |halt x w'=>simp[b]
theorem zaE{o:Oper}(h:∀a,K a->K' a w)(b:o.still P a w K):o.wpIn (Fence.wide.inRound l) n P a w K' Q':=by
 have c:=KZ b;unfold Oper.still at b;unfold Oper.wpIn;refine⟨fun _ _=>trivial,?_⟩;rw[Oper.semAt_eq _ _ _ c];generalize(execOp a.eval o).run P w=r at*;cases r with
 |ok k w'=>
  cases k<;>simp only[Oper.stillUpon]at b<;>simp only[Oper.uponIn];case enter f args=>
   obtain⟨rfl,v,g,hn⟩:=b;exact⟨fun e=>by simp[Fence.inRound,Fence.wide]at e,(CallsIn.inRound l (callsIn_wide.2 g)).mono fun e m ⟨i,j⟩=>by subst i;subst j;exact h _ hn⟩
  all_goals(obtain⟨rfl,d⟩:=b;exact h _ d)
 |halt x w'=>simp only[Oper.stillUpon]at b
theorem zcA(h:∀a,K a->K' a w)(b:stOp P ops w i K a):wpOpIn (Fence.wide.inRound l) n P ops Q' i K' a w:=by
 unfold stOp at b;unfold wpOpIn;split
 ·rename_i ho;simp only[ho]at b;exact h _ b
 ·rename_i o ho;simp only[ho]at b;split
  ·rename_i hw;simp only[hw,if_true]at b;exact zaE h b
  ·rename_i hw;simp only[hw]at b;exact⟨fun _ _=>trivial,h _ b⟩
theorem XR{k g:Nat}{L:Array Bool->Act->Prop}{Q':Exit->Act->z0->Prop}(c:∀b a,L b a->wpAnyIn (Fence.wide.inRound l) n P md ops Q' g b a w):
  ∀(f:Nat) (b:Array Bool) (a:Act),wpAnyL P md ops w k L f b a->wpAnyIn (Fence.wide.inRound l) n P md ops Q' (f+g) b a w
 |0,b,a,h=>by rw[Nat.zero_add];exact c _ _ h
 |f+1,b,a,h=>by
  rw[show f+1+g=(f+g)+1 by omega];exact⟨fun j=>absurd j h.1,fun i m=>zcA (fun d e=>XR c f _ d e) (h.2 i m).2⟩
theorem QR{F:Fence}{Q':Exit->Act->z0->Prop}:∀(ls:List Oper) (k:Nat) (b:Array Bool) (a:Act) (w:z0),(∀j,ls[j]?=ops[k+j]?)->
  Region.seqB md ops ls.length k b=true->wpListIn F n P ops Q' ls a w->wpAnyIn F n P md ops Q' ls.length b a w
 |[],_,_,_,_,_,c,h=>⟨by simpa[Region.seqB]using c,h⟩
 |o::ls,k,b,a,w,g,c,h=>by
  have p:ops[k]?=G o:=by simpa using(g 0).symm
  simp only[List.length_cons,Region.seqB,Bool.and_eq_true,decide_eq_true_eq]at c;refine⟨fun e=>(by rw[c.1]at e;cases e),fun i f=>?_⟩;rw[c.1]at f;have d:i=k:=by simpa using f
  subst d;have q:wpOpIn F n P ops Q' i (wpListIn F n P ops Q' ls) a w:=by unfold wpOpIn;simp only[p];exact h
  exact wpOpIn_mono (fun l w' m=>QR ls (i+1) _ l w' (fun j=>by have:=g (j+1);simpa[Nat.add_assoc,Nat.add_comm 1 j]using this) c.2 m) q
theorem Xi{w:z0}(k:Nat)(u:P.follows .mixedOrders=true)(o:Region.lexTailB .any ls.toArray k=true)(h:wpStill P ls.toArray w.drew (fun m=>wpListIn (Fence.wide.inRound l) n P ls.toArray Q (ls.drop k) m w.drew) (ls.take k) a):(Code.region id ls.toArray true).wpIn (Fence.wide.inRound l) n P Q a w:=by
 simp only[Region.lexTailB,Bool.and_eq_true,decide_eq_true_eq]at o;obtain⟨⟨⟨⟨f,hn⟩,x⟩,s⟩,e⟩:=o;have v:k<ls.length:=by simpa using hn
 have b:(ls.take k).length=k:=by simp;omega
 have d:(ls.drop k).length=ls.toArray.size-k:=by simp
 have i:HeadInv .any ls.toArray k (Array.replicate ls.toArray.size false):=
  ⟨by simp,fun j z _ r=>(by rw[getD_replicate_false]at r;cases r),fun t _ y=>getD_in (by simpa using y) (getD_replicate_false _ _)⟩
 have H:=wpAnyL_lex (md:=.any) (g:=ls.toArray.size-k) f x s hn (ls.take k) 0 _ a (fun j q=>by
  have hj':j<k:=by rw[b]at q;exact q
  simp[hj']) (by simpa using b) i (by rw[b];exact e) h
 refine wpIn_region_any u ?_;have:=XR (l:=l) (n:=n) (Q':=Q) (g:=ls.toArray.size-k) (fun c m p=>by
  have:=QR (F:=Fence.wide.inRound l) (n:=n) (md:=.any) (Q':=Q) (ls.drop k) k c m w.drew (fun j=>by simp[List.getElem?_drop]) (by rw[d];exact p.1) p.2;rwa[d]at this) _ _ _ H
 rw[b,show k+(ls.toArray.size-k)=ls.toArray.size by omega]at this;exact this
theorem qH{w:z0}(k:Nat)(d:P.follows .mixedOrders=true)(c:Region.lexTailB .any ls.toArray k=true)(h:wpStill P ls.toArray w.drew (fun b=>wpList P ls.toArray Q (ls.drop k) b w.drew) (ls.take k) a):(Code.region id ls.toArray true).wp P Q a w:=wp_region_still_tail k d c h
end
end Go.Proofs.YtndhpgciopcncaaGreatDoor
