import Derived.RangeFuncNested
import Derived.RangeFuncBound
import Derived.RangeFuncCalls
import Derived.RangeFuncLeaves
import Derived.Shelf.Abstract
import Derived.Shelf.RegionOpen
import Derived.WalkKit
import Derived.OwnWalkIn
import Derived.TacticsInMore
import Derived.LoopNIn
import Derived.LoopIn
import Derived.Test.YtpbimdkclnekeaaGreatTRefE

namespace Go.Proofs.YtpbimdkclnekeaaGreat
open Go.RowKit Go.Maps Go.Shelf
open Go.ChangeMaps (setBlock)
set_option linter.unusedVariables false
attribute [local go_sem] Oper.semAt_some
theorem setBlock_at {w : World} {r : Nat} (h : r < w.heap.size) (o : Obj) : (setBlock w r o).heap[r]? = some o := by simp [setBlock, h]
theorem setBlock_other {w : World} {r k : Nat} (h : k ≠ r) (o : Obj) : (setBlock w r o).heap[k]? = w.heap[k]? := by
 simp only [setBlock]; rw [Array.getElem?_setIfInBounds_ne (fun e => h e.symm)]
theorem setBlock_grown (w : World) (r : Nat) (o : Obj) : w.grownBy (setBlock w r o) (some r) :=
 ⟨rfl, rfl, rfl, by simp [setBlock], fun k _ hk => setBlock_other (fun e => hk (by rw [e])) o⟩
def leftAt (es : Array MapEntry) (r : Nat) (w : World) : Nat := match w.heap[r]? with
 | some (.mapIter _ _ seen _) => (leftOf es seen).size
 | _ => 0
theorem leftAt_eq {es : Array MapEntry} {r : Nat} {w : World} {m : Option Nat} {s : Nat} {seen : Array Nat} {c : Nat} (h : w.heap[r]? = some (.mapIter m s seen c)) : leftAt es r w = (leftOf es seen).size := by
 unfold leftAt; rw [h]
theorem zdw {es : Array MapEntry} {seen : Array Nat} {e : MapEntry} : e ∈ (leftOf es seen).toList ↔ e ∈ es.toList /\ e.born ∉ seen.toList := by
 simp [leftOf]
theorem left_less {es : Array MapEntry} {seen : Array Nat} {e : MapEntry} (he : e ∈ (leftOf es seen).toList) : (leftOf es (seen.push e.born)).size < (leftOf es seen).size := by
 have h1 : leftOf es (seen.push e.born) = (leftOf es seen).filter (fun x => x.born != e.born) := by
  unfold leftOf
  rw [Array.filter_filter]
  congr 1
  funext x
  by_cases h : x.born = e.born <;> simp [h]
 rw [h1]
 simp
 exact ⟨e, Array.mem_toList_iff.1 he, rfl⟩
structure Come (es : Array MapEntry) (seen : Array Nat) (ps : List MapEntry) : Prop where
 born : ps.map (·.born) = seen.toList
 once : (ps.map (·.born)).Nodup
 sub : ∀ e ∈ ps, e ∈ es.toList
theorem Come.step {es : Array MapEntry} {seen : Array Nat} {ps : List MapEntry} (h : Come es seen ps) {e : MapEntry} (he : e ∈ (leftOf es seen).toList) : Come es (seen.push e.born) (ps ++ [e]) := by
 obtain ⟨h1, h2⟩ := zdw.1 he
 refine ⟨by simp [h.born], ?_, fun x hx => ?_⟩
 ·rw [List.map_append, List.nodup_append]
  refine ⟨h.once, by simp, fun a ha b hb => ?_⟩
  simp at hb; subst hb; intro e1; subst e1; rw [h.born] at ha; exact h2 ha
 ·rcases List.mem_append.1 hx with hx | hx
  ·exact h.sub x hx
  ·simp at hx; subst hx; exact h1
theorem born_eq {es : Array MapEntry} (hn : (es.toList.map (·.born)).Nodup) {a b : MapEntry} (ha : a ∈ es.toList) (hb : b ∈ es.toList) (h : a.born = b.born) : a = b := by
 have hpw : es.toList.Pairwise (fun a b => a.born ≠ b.born) := List.pairwise_map.1 hn
 obtain ⟨i, hi, ei⟩ := List.getElem_of_mem ha
 obtain ⟨j, hj, ej⟩ := List.getElem_of_mem hb
 rcases Nat.lt_trichotomy i j with h1 | h1 | h1
 ·have := List.pairwise_iff_getElem.1 hpw i j hi hj h1; rw [ei, ej] at this; exact absurd h this
 ·subst h1; rw [<- ei, ej]
 ·have := List.pairwise_iff_getElem.1 hpw j i hj hi h1; rw [ei, ej] at this; exact absurd h.symm this
theorem Come.all {es : Array MapEntry} {seen : Array Nat} {ps : List MapEntry} (h : Come es seen ps) (hn : (es.toList.map (·.born)).Nodup) (h0 : (leftOf es seen).size = 0) : ps.Perm es.toList := by
 have hps : ps.Nodup := List.Pairwise.of_map (·.born) (fun a b h e => h (by rw [e])) h.once
 have hes : es.toList.Nodup := List.Pairwise.of_map (·.born) (fun a b h e => h (by rw [e])) hn
 refine (List.perm_ext_iff_of_nodup hps hes).2 (fun e => ⟨h.sub e, fun he => ?_⟩)
 have hs : e.born ∈ seen.toList := by
  by_cases hc : e.born ∈ seen.toList
  ·exact hc
  ·have : e ∈ (leftOf es seen).toList := zdw.2 ⟨he, hc⟩
   have h1 : (leftOf es seen).toList = [] := by
    apply List.eq_nil_of_length_eq_zero; simpa using h0
   rw [h1] at this; simp at this
 rw [<- h.born] at hs
 obtain ⟨x, hx, e1⟩ := List.mem_map.1 hs
 rw [<- born_eq hn (h.sub x hx) he e1]; exact hx
theorem Come.lt {es : Array MapEntry} {seen : Array Nat} {ps : List MapEntry} (h : Come es seen ps) {e : MapEntry} (he : e ∈ (leftOf es seen).toList) : ps.length < es.size := by
 have h2 := (h.step he)
 have hps : (ps ++ [e]).Nodup := List.Pairwise.of_map (·.born) (fun a b h e => h (by rw [e])) h2.once
 have := List.Nodup.length_le_of_subset hps (fun x hx => h2.sub x hx)
 simp at this; omega
end Go.Proofs.YtpbimdkclnekeaaGreat

namespace Go.Proofs.YtpbimdkclnekeaaGreat
open Value (int)
open IntKind (i64)
open Go.RowKit Go.Maps Go.Shelf
set_option linter.unusedVariables false
attribute [local go_sem] Oper.semAt_some
abbrev WSg := { s : Sg // s.wf }
theorem zero_wf : (⟨0, 0, 0⟩ : Sg).wf := by refine ⟨?_, ?_, ?_⟩ <;> (unfold i64B; simp)
noncomputable def wSeg (s : Sg) : WSg := by classical exact if h : s.wf then ⟨s, h⟩ else ⟨⟨0, 0, 0⟩, zero_wf⟩
theorem wSeg_val {s : Sg} (h : s.wf) : (wSeg s).1 = s := by unfold wSeg; rw [dif_pos h]
def wsum (l : List Int) : Int := l.foldl (fun s x => wrap64 (s + x)) 0
theorem wsum_snoc (l : List Int) (x : Int) : wsum (l ++ [x]) = wrap64 (wsum l + x) := by simp [wsum]
theorem wrap_in (a b : Int) : wrap64 (wrap64 a + b) = wrap64 (a + b) := by unfold wrap64; omega
theorem wsum_eq : ∀ l : List Int, wsum l = wrap64 (zcx l) := by
 intro l
 have h : ∀ (l : List Int) (s : Int), l.foldl (fun s x => wrap64 (s + x)) (wrap64 s) = wrap64 (s + zcx l) := by
  intro l
  induction l with
  | nil => intro s; simp [zcx]
  | cons x l ih => intro s; rw [List.foldl_cons, wrap_in, ih, zcx]; congr 1; omega
 have := h l 0
 have e : wrap64 0 = 0 := by unfold wrap64; omega
 rw [e] at this
 unfold wsum; rw [this]; congr 1; omega
theorem wsum_small {l : List Int} (h : -9223372036854775808 <= zcx l /\ zcx l <= 9223372036854775807) : wsum l = zcx l := by
 rw [wsum_eq]; unfold wrap64; omega
theorem zbc {W W' : World} {row : Option Nat} {k : Nat} {cs : Array Value} {t : TypeId} {fr : Nat × Nat} (h : W.heap[k]? = some (.cells cs t fr)) (hg : W.grownBy W' row) (hr : ∀ r, row = some r -> ∃ o : Obj, W.heap[r]? = some o /\ o.isCells = false) : W'.heap[k]? = some (.cells cs t fr) := by
 refine (hg.block k (zaa h) (fun e => ?_)).trans h
 obtain ⟨o, ho, hc⟩ := hr k e.symm
 rw [h] at ho
 injection ho with ho
 subst ho
 simp [Obj.isCells] at hc
theorem zep {W W' : World} (h : Below W.heap.size W W') : KeepsOthers W W' := ⟨h.size, fun k o hk _ => (h.block k (zaa hk)).trans hk⟩
theorem zdp {n D : Nat} {w W : World} {o : Obj} (h : Below n w W) (hn : n <= w.heap.size) (hD : n <= D) (hK : W.heap[D]? = some o) (o' : Obj) : Below n w (W.putObj D o') :=
 h.grown (grownBy_putObj' W D o') (Nat.le_trans hn h.size) (fun k e => by cases e; exact hD)
structure Keeping (n : Nat) (Kp : World -> World -> Prop) : Prop where
 t : ∀ {A B C : World}, Kp A B -> Kp B C -> Kp A C
 b : ∀ (W : World) (l : Nat) (o o' : Obj), n <= l -> W.heap[l]? = some o -> o.isCells = false -> o.isWalk = false -> Kp W (W.putObj l o')
 of : ∀ (W W' : World), KeepsOthers W W' -> Below n W W' -> Kp W W'
theorem keeping_below (n : Nat) : Keeping n (Below n) := ⟨fun h k => h.trans k, fun W l o o' hl h _ _ => (Below.refl n W).grown (grownBy_putObj' W l o') (by have := zaa h; omega) (fun k e => by cases e; exact hl), fun W W' _ h => h⟩
theorem sum_round {α : Type} {w W w' : World} {Kp : World -> World -> Prop} {f : α -> Int} {pre : List α} {x : α} {v : Value} {t t2 : TypeId} {B : Nat} {u : Value} (hu : u = int i64 (wrap64 (wsum (pre.map f) + f x)))
  (i1 : W.heap[w.heap.size]? = some (.cells #[v] t (0, 0))) (i2 : W.heap[w.heap.size + 1]? = some (.cells #[int i64 (wsum (pre.map f))] t2 (0, 0))) (i3 : Below w.heap.size w W) (hkp : Keeping w.heap.size Kp) (hb : Below W.heap.size W w') :
  KeepsFrom B W (w'.setCell ⟨w.heap.size + 1, 0, none⟩ u) /\ Kp W (w'.setCell ⟨w.heap.size + 1, 0, none⟩ u) /\ ((w'.setCell ⟨w.heap.size + 1, 0, none⟩ u).heap[w.heap.size]? = some (.cells #[v] t (0, 0)) /\ (w'.setCell ⟨w.heap.size + 1, 0, none⟩ u).heap[w.heap.size + 1]? = some (.cells #[int i64 (wsum ((pre ++ [x]).map f))] t2 (0, 0)) /\ Below w.heap.size w (w'.setCell ⟨w.heap.size + 1, 0, none⟩ u)) := by
 subst hu
 have hz1 := zaa i1
 have hz2 := zaa i2
 have k1 : KeepsOthers W (w'.setCell ⟨w.heap.size + 1, 0, none⟩ (int i64 (wrap64 (wsum (pre.map f) + f x)))) := (zep hb).trans (KeepsOthers.setCell _ _ _)
 have k2 : Below w.heap.size W (w'.setCell ⟨w.heap.size + 1, 0, none⟩ (int i64 (wrap64 (wsum (pre.map f) + f x)))) := ((hb.mono i3.size).setCell (p := ⟨w.heap.size + 1, 0, none⟩) (Nat.le_succ _) _)
 refine ⟨k1.from _, hkp.of _ _ k1 k2, ?_, ?_, i3.trans k2⟩
 ·have h1 := (hb.block _ hz1).trans i1
  show (w'.setCell ⟨w.heap.size + 1, 0, none⟩ _).heap[w.heap.size]? = _
  have hbk := ((Below.refl (w.heap.size + 1) w').setCell (p := ⟨w.heap.size + 1, 0, none⟩) (Nat.le_refl _) (int i64 (wrap64 (wsum (pre.map f) + f x)))).block w.heap.size (Nat.lt_succ_self _)
  exact hbk.trans h1
 ·have h2 := (hb.block _ hz2).trans i2
  rw [List.map_append, List.map_singleton, wsum_snoc]
  exact zbz (i := 0) h2 _
end Go.Proofs.YtpbimdkclnekeaaGreat
