import Derived.RangeFuncNested
import Derived.RangeFuncBound
import Derived.RangeFuncCalls
import Derived.RangeFuncLeaves
import Derived.Shelf.Abstract
import Derived.Shelf.RegionOpen
import Derived.WalkKit
import Derived.OwnWalkIn
import Derived.TacticsInMore
import Derived.LoopNIn
import Derived.LoopIn
import Derived.Test.YtndhpgciopcncaaGreatDoorYRef8
open Go renaming World → I
open Go.Value (int)
open Go.IntKind (i64)
set_option linter.unusedVariables false
namespace Go.Proofs.YtndhpgciopcncaaGreatDoor
open Go.ChangeMaps (setBlock)
open Go.RowKit Go.Maps Go.Shelf
attribute [local go_sem] Oper.semAt_some
theorem qO{w:I}{r:Nat}(h:r<w.1.size)(o:Obj):(setBlock w r o).1[r]?=some o:=by simp[setBlock,h]
theorem qr{w:I}{r k:Nat}(h:k≠r)(o:Obj):(setBlock w r o).1[k]?=w.1[k]?:=by
 simp only[setBlock];rw[Array.getElem?_setIfInBounds_ne (fun e=>h e.symm)]
theorem qq(w:I)(r:Nat)(o:Obj):w.grownBy (setBlock w r o) (some r):=
 ⟨rfl,rfl,rfl,by simp[setBlock],fun k _ a=>qr (fun e=>a (by rw[e])) o⟩
def QK(b:Array MapEntry)(r:Nat)(w:I):Nat:=match w.1[r]? with
 |some (.mapIter _ _ a _)=>(leftOf b a).size
 |_=>0
theorem qj{b:Array MapEntry}{r:Nat}{w:I}{m:Option Nat}{s:Nat}{a:Array Nat}{c:Nat}(h:w.1[r]?=some (.mapIter m s a c)):QK b r w=(leftOf b a).size:=by
 unfold QK;rw[h]
theorem xM{b:Array MapEntry}{a:Array Nat}{e:MapEntry}:e∈(leftOf b a).toList↔e∈b.toList/\e.born∉a.toList:=by
 simp[leftOf]
theorem vi{b:Array MapEntry}{a:Array Nat}{e:MapEntry}(d:e∈(leftOf b a).toList):(leftOf b (a.push e.born)).size<(leftOf b a).size:=by
 have c:leftOf b (a.push e.born)=(leftOf b a).filter (fun x=>x.born !=e.born):=by
  unfold leftOf
  rw[Array.filter_filter]
  congr 1
  funext x
  by_cases h:x.born=e.born<;>simp[h]
 rw[c]
 simp
 exact⟨e,Array.mem_toList_iff.1 d,rfl⟩
structure zdF(es:Array MapEntry)(seen:Array Nat)(ps:List MapEntry):Prop where
 born:ps.map (·.born)=seen.toList
 once:(ps.map (·.born)).Nodup
 sub:∀e∈ps,e∈es.toList
theorem zdF.step{f:Array MapEntry}{c:Array Nat}{ps:List MapEntry}(h:zdF f c ps){e:MapEntry}(m:e∈(leftOf f c).toList):zdF f (c.push e.born) (ps++[e]):=by
 obtain⟨k,l⟩:=xM.1 m
 refine⟨by simp[h.born],?_,fun x d=>?_⟩
 ·rw[List.map_append,List.nodup_append]
  refine⟨h.once,by simp,fun a g b i=>?_⟩
  simp at i;subst i;intro j;subst j;rw[h.born]at g;exact l g
 ·rcases List.mem_append.1 d with d|d
  ·exact h.sub x d
  ·simp at d;subst d;exact k
theorem zie{e:Array MapEntry}(hn:(e.toList.map (·.born)).Nodup){a b:MapEntry}(m:a∈e.toList)(n:b∈e.toList)(h:a.born=b.born):a=b:=by
 have d:e.toList.Pairwise (fun a b=>a.born≠b.born):=List.pairwise_map.1 hn
 obtain⟨i,k,f⟩:=List.getElem_of_mem m
 obtain⟨j,l,g⟩:=List.getElem_of_mem n
 rcases Nat.lt_trichotomy i j with c|c|c
 ·have:=List.pairwise_iff_getElem.1 d i j k l c;rw[f,g]at this;exact absurd h this
 ·subst c;rw[<-f,g]
 ·have:=List.pairwise_iff_getElem.1 d j i l k c;rw[f,g]at this;exact absurd h.symm this
theorem zdF.all{d:Array MapEntry}{c:Array Nat}{ps:List MapEntry}(h:zdF d c ps)(hn:(d.toList.map (·.born)).Nodup)(n:(leftOf d c).size=0):ps.Perm d.toList:=by
 have g:ps.Nodup:=List.Pairwise.of_map (·.born) (fun a b h e=>h (by rw[e])) h.once
 have f:d.toList.Nodup:=List.Pairwise.of_map (·.born) (fun a b h e=>h (by rw[e])) hn
 refine(List.perm_ext_iff_of_nodup g f).2 (fun e=>⟨h.sub e,fun j=>?_⟩)
 have k:e.born∈c.toList:=by
  by_cases i:e.born∈c.toList
  ·exact i
  ·have:e∈(leftOf d c).toList:=xM.2 ⟨j,i⟩
   have o:(leftOf d c).toList=[]:=by
    apply List.eq_nil_of_length_eq_zero;simpa using n
   rw[o]at this;simp at this
 rw[<-h.born]at k
 obtain⟨x,l,m⟩:=List.mem_map.1 k
 rw[<-zie hn (h.sub x l) j m];exact l
theorem zdF.lt{d:Array MapEntry}{c:Array Nat}{ps:List MapEntry}(h:zdF d c ps){e:MapEntry}(i:e∈(leftOf d c).toList):ps.length<d.size:=by
 have g:=(h.step i)
 have f:(ps++[e]).Nodup:=List.Pairwise.of_map (·.born) (fun a b h e=>h (by rw[e])) g.once
 have:=List.Nodup.length_le_of_subset f (fun x j=>g.sub x j)
 simp at this;omega
attribute [local go_sem] Oper.semAt_some
abbrev WSg:={s:Sg//s.wf}
theorem zju:(⟨0,0,0⟩:Sg).wf:=by refine⟨?_,?_,?_⟩<;>(unfold xR;simp)
noncomputable def zfW (s:Sg):WSg:=by classical exact if h:s.wf then⟨s,h⟩else⟨⟨0,0,0⟩,zju⟩
theorem Qc{s:Sg}(h:s.wf):(zfW s).1=s:=by unfold zfW;rw[dif_pos h]
def kW(l:List Int):Int:=l.foldl (fun s x=>wrap64 (s+x)) 0
theorem ZU(l:List Int)(x:Int):kW (l++[x])=wrap64 (kW l+x):=by simp[kW]
theorem zfT(a b:Int):wrap64 (wrap64 a+b)=wrap64 (a+b):=by unfold wrap64;omega
theorem zjt:∀l:List Int,kW l=wrap64 (xI l):=by
 intro l
 have h:∀(l:List Int) (s:Int),l.foldl (fun s x=>wrap64 (s+x)) (wrap64 s)=wrap64 (s+xI l):=by
  intro l
  induction l with
  |nil=>intro s;simp[xI]
  |cons x l a=>intro s;rw[List.foldl_cons,zfT,a,xI];congr 1;omega
 have:=h l 0
 have e:wrap64 0=0:=by unfold wrap64;omega
 rw[e]at this
 unfold kW;rw[this];congr 1;omega
theorem kh{l:List Int}(h: -9223372036854775808<=xI l/\xI l<=9223372036854775807):kW l=xI l:=by
 rw[zjt];unfold wrap64;omega
theorem zI{W b:I}{row:Option Nat}{k:Nat}{cs:Array Value}{t:TypeId}{c:Nat×Nat}(h:W.1[k]?=some (.cells cs t c))(f:W.grownBy b row)(g:∀r,row=some r->∃o:Obj,W.1[r]?=some o/\o.isCells=false):b.1[k]?=some (.cells cs t c):=by
 refine(f.block k (zb h) (fun e=>?_)).trans h
 obtain⟨o,a,d⟩:=g k e.symm
 rw[h]at a
 injection a with a
 subst a
 simp[Obj.isCells]at d
theorem yu{W a:I}(h:Below W.1.size W a):KeepsOthers W a:=⟨h.size,fun k o b _=>(h.block k (zb b)).trans b⟩
theorem xE{n D:Nat}{w W:I}{o:Obj}(h:Below n w W)(hn:n<=w.1.size)(b:n<=D)(c:W.1[D]?=some o)(a:Obj):Below n w (W.putObj D a):=
 h.grown (grownBy_putObj' W D a) (Nat.le_trans hn h.size) (fun k e=>by cases e;exact b)
structure vN(n:Nat)(Kp:I->I->Prop):Prop where
 t:∀{A B C:I},Kp A B->Kp B C->Kp A C
 b:∀(W:I) (l:Nat) (o o':Obj),n<=l->W.1[l]?=some o->o.isCells=false->o.isWalk=false->Kp W (W.putObj l o')
 of:∀(W W':I),KeepsOthers W W'->Below n W W'->Kp W W'
theorem yU(n:Nat):vN n (Below n):=⟨fun h k=>h.trans k,fun W l o b a h _ _=>(Below.refl n W).grown (grownBy_putObj' W l b) (by have:=zb h;omega) (fun k e=>by cases e;exact a),fun W c _ h=>h⟩
theorem Jq{α:Type}{w W w':I}{Kp:I->I->Prop}{f:α->Int}{a:List α}{x:α}{v:Value}{t t2:TypeId}{B:Nat}{u:Value}(n:u=int i64 (wrap64 (kW (a.map f)+f x)))
  (h:W.1[w.1.size]?=some (.cells #[v] t (0,0))) (i2:W.1[w.1.size+1]?=some (.cells #[int i64 (kW (a.map f))] t2 (0,0))) (i3:Below w.1.size w W) (d:vN w.1.size Kp) (b:Below W.1.size W w'):
  KeepsFrom B W (w'.setCell ⟨w.1.size+1,0,none⟩ u)/\Kp W (w'.setCell ⟨w.1.size+1,0,none⟩ u)/\((w'.setCell ⟨w.1.size+1,0,none⟩ u).1[w.1.size]?=some (.cells #[v] t (0,0))/\(w'.setCell ⟨w.1.size+1,0,none⟩ u).1[w.1.size+1]?=some (.cells #[int i64 (kW ((a++[x]).map f))] t2 (0,0))/\Below w.1.size w (w'.setCell ⟨w.1.size+1,0,none⟩ u)):=by
 subst n
 have e:=zb h
 have g:=zb i2
 have j:KeepsOthers W (w'.setCell ⟨w.1.size+1,0,none⟩ (int i64 (wrap64 (kW (a.map f)+f x)))):=(yu b).trans (KeepsOthers.setCell _ _ _)
 have k:Below w.1.size W (w'.setCell ⟨w.1.size+1,0,none⟩ (int i64 (wrap64 (kW (a.map f)+f x)))):=((b.mono i3.size).setCell (p:=⟨w.1.size+1,0,none⟩) (Nat.le_succ _) _)
 refine⟨j.from _,d.of _ _ j k,?_,?_,i3.trans k⟩
 ·have l:=(b.block _ e).trans h
  show(w'.setCell ⟨w.1.size+1,0,none⟩ _).1[w.1.size]?=_
  have c:=((Below.refl (w.1.size+1) w').setCell (p:=⟨w.1.size+1,0,none⟩) (Nat.le_refl _) (int i64 (wrap64 (kW (a.map f)+f x)))).block w.1.size (Nat.lt_succ_self _)
  exact c.trans l
 ·have m:=(b.block _ g).trans i2
  rw[List.map_append,List.map_singleton,ZU]
  exact xi (i:=0) m _
end Go.Proofs.YtndhpgciopcncaaGreatDoor
