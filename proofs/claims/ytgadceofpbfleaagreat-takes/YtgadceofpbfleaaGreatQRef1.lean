import Derived.Test.YtgadceofpbfleaaGreatQConf1
import Derived.Test.YtgadceofpbfleaaGreatQLater
import Derived.Test.YtgadceofpbfleaaGreatQMem0
import Derived.Test.YtgadceofpbfleaaGreatQRef0
import Derived.Deep.WholeRow

/- The document's mill in memory; walks of its small parts: among, segment, end, keep. -/
namespace Go.Proofs.YtgadceofpbfleaaGreat
open Go.RowKit
set_option linter.unusedVariables false

theorem rcell {w : World} {g : Nat} {cs : Array Value} {t : TypeId} {fr : Nat × Nat} (h : w.heap[g]? = some (.cells cs t fr)) (i : Nat) : w.cell? ⟨g, i, none⟩ = cs[i]? := by simp [World.cell?, h]
theorem rfree {w : World} {g : Nat} {cs : Array Value} {t : TypeId} (h : w.heap[g]? = some (.cells cs t (0, 0))) (i : Nat) : w.frozen? ⟨g, i, none⟩ = false := by simp [World.frozen?, h]
theorem rlast (w : World) (o : Obj) : (w.alloc o).heap[w.heap.size]? = some o := heap_alloc_last w o
theorem rsize (w : World) (o : Obj) : (w.alloc o).heap.size = w.heap.size + 1 := by simp
theorem rget_of_lt {α : Type} {l : List α} {i : Nat} (h : i < l.length) : ∃ a, l[i]? = some a := ⟨_, List.getElem?_eq_getElem h⟩

/-- a row of segments by index. -/
theorem sg_at {w : World} {B : Nat} {e : TypeId} {v : Value} {l : List Sg} (h : w.ownsRow B e 3 v l.length (l.flatMap sgV)) {i : Nat} {x : Sg} (hx : l[i]? = some x) :
    ∃ g cap, v = .slice (some ⟨g, 0, none⟩) l.length cap ∧ B ≤ g ∧ g < w.heap.size ∧ w.cell? ⟨g, i * 3, none⟩ = some (.int .i64 x.t) ∧ w.cell? ⟨g, i * 3 + 1, none⟩ = some (.int .i64 x.ser) ∧ w.cell? ⟨g, i * 3 + 2, none⟩ = some (.int .i64 x.win) := by
  have hil : i < l.length := (List.getElem?_eq_some_iff.1 hx).1
  obtain ⟨g, cap, hv, hb, hlt⟩ := h.form (by omega)
  rw [hv] at h
  refine ⟨g, cap, hv, hb, hlt, ?_, ?_, ?_⟩
  · rw [h.cellAt _ (by omega)]; exact flat_get (f := sgV) sgV_len l i x 0 hx (by omega)
  · rw [h.cellAt _ (by omega)]; exact flat_get (f := sgV) sgV_len l i x 1 hx (by omega)
  · rw [h.cellAt _ (by omega)]; exact flat_get (f := sgV) sgV_len l i x 2 hx (by omega)
theorem nm_at {w : World} {B : Nat} {e : TypeId} {v : Value} {l : List Nm} (h : w.ownsRow B e 3 v l.length (l.flatMap nmV)) {i : Nat} {x : Nm} (hx : l[i]? = some x) :
    ∃ g cap, v = .slice (some ⟨g, 0, none⟩) l.length cap ∧ B ≤ g ∧ g < w.heap.size ∧ w.cell? ⟨g, i * 3, none⟩ = some (.int .i64 x.ser) ∧ w.cell? ⟨g, i * 3 + 1, none⟩ = some (.int .i64 x.tm) ∧ w.cell? ⟨g, i * 3 + 2, none⟩ = some (.int .i32 x.val) := by
  have hil : i < l.length := (List.getElem?_eq_some_iff.1 hx).1
  obtain ⟨g, cap, hv, hb, hlt⟩ := h.form (by omega)
  rw [hv] at h
  refine ⟨g, cap, hv, hb, hlt, ?_, ?_, ?_⟩
  · rw [h.cellAt _ (by omega)]; exact flat_get (f := nmV) nmV_len l i x 0 hx (by omega)
  · rw [h.cellAt _ (by omega)]; exact flat_get (f := nmV) nmV_len l i x 1 hx (by omega)
  · rw [h.cellAt _ (by omega)]; exact flat_get (f := nmV) nmV_len l i x 2 hx (by omega)
theorem row_slice {w : World} {B : Nat} {e : TypeId} {size : Nat} {v : Value} {n : Nat} {xs : List Value} (h : w.ownsRow B e size v n xs) : ∃ a cap, v = .slice a n cap := by
  rcases h.2 with ⟨h1, h2⟩ | ⟨g, cap, _, h1, _⟩
  · exact ⟨none, 0, by rw [h1, h2]⟩
  · exact ⟨_, cap, h1⟩
theorem row_later {w w' : World} {B : Nat} {e : TypeId} {size : Nat} {v : Value} {n : Nat} {xs : List Value} (h : w.ownsRow B e size v n xs) (hb : Below w.heap.size w w') : w'.ownsRow B e size v n xs :=
  owns_kept h (Kept.of_below (f := fun _ => False) hb) (fun _ _ hh => hh)

def sgVal (s : Sg) : Value := .agg #[.int .i64 s.t, .int .i64 s.ser, .int .i64 s.win]
theorem sg_ne {x s : Sg} (h : ¬ x = s) : (x.t == s.t) = false ∨ ((x.t == s.t) = true ∧ (x.ser == s.ser) = false) ∨ ((x.t == s.t) = true ∧ (x.ser == s.ser) = true ∧ (x.win == s.win) = false) := by
  by_cases h1 : x.t = s.t
  · by_cases h2 : x.ser = s.ser
    · by_cases h3 : x.win = s.win
      · exact absurd (by cases x; cases s; simp_all) h
      · exact .inr (.inr (by simp [h1, h2, h3]))
    · exact .inr (.inl (by simp [h1, h2]))
  · exact .inl (by simp [h1])
def memB (s : Sg) (l : List Sg) : Bool := decide (s ∈ l)
theorem memB_true {s : Sg} {l : List Sg} (h : s ∈ l) : memB s l = true := by simp [memB, h]
theorem memB_false {s : Sg} {l : List Sg} (h : ¬ s ∈ l) : memB s l = false := by simp [memB, h]

theorem not_mem_of {s : Sg} {l : List Sg} (h : ∀ j x, j < l.length → l[j]? = some x → x ≠ s) : ¬ s ∈ l := fun hm => by
  obtain ⟨j, hj⟩ := List.getElem?_of_mem hm
  exact h j s (List.getElem?_eq_some_iff.1 hj).1 hj rfl

set_option maxHeartbeats 1000000 in
theorem among_any (B : Nat) (l : List Sg) (v : Value) (s : Sg) (w : World) (hl : l.length ≤ 1099511627776) (h : w.ownsRow B 126 3 v l.length (l.flatMap sgV)) :
    Calls Tryz.prog 67 #[v, .agg #[.int .i64 s.t, .int .i64 s.ser, .int .i64 s.win]] w fun e w' => e = .returned (.bool (memB s l)) ∧ Below w.heap.size w w' := by
  obtain ⟨a, cap, hv⟩ := row_slice h
  subst hv
  go_enter Tryz.func67, Tryz.ntmps67
  go_wp2_with fail
  go_loopw [5] (fun y wr => ∃ (k : Nat), k ≤ l.length ∧ y = .int .i64 k ∧ (∀ j x, j < k → l[j]? = some x → x ≠ s) ∧ Below (w.heap.size + 1) (w.alloc (.cells #[.int .i64 s.t, .int .i64 s.ser, .int .i64 s.win] 126)) wr) (fun y _ => l.length - (intOf y).toNat)
  case atStart => exact ⟨0, Nat.zero_le _, rfl, fun j x hj => absurd hj (Nat.not_lt_zero _), Below.refl _ _⟩
  case round =>
    obtain ⟨k, hk, rfl, ha, hb⟩ := hrel
    have HA := hide ha
    clear ha
    have hbw : Below w.heap.size w wr := ((Below.refl _ _).alloc (Nat.le_refl _) _).trans (hb.mono (by omega))
    have hsz : w.heap.size < wr.heap.size := by have := hb.size; simp at this; omega
    have hbox := (hb.block w.heap.size (by omega)).trans (rlast w _)
    have s0 : wr.cell? ⟨w.heap.size, 0, none⟩ = some (.int .i64 s.t) := by rw [rcell hbox]; rfl
    have s1 : wr.cell? ⟨w.heap.size, 1, none⟩ = some (.int .i64 s.ser) := by rw [rcell hbox]; rfl
    have s2 : wr.cell? ⟨w.heap.size, 2, none⟩ = some (.int .i64 s.win) := by rw [rcell hbox]; rfl
    clear hbox
    by_cases hlt : k < l.length
    · have h' := row_later h hbw
      obtain ⟨x, hx⟩ := rget_of_lt hlt
      obtain ⟨g, cap', hv, _, hgz, h1, h2, h3⟩ := sg_at h' hx
      cases hv
      have HX := hide hx
      have hkn : (k : Int) < l.length := by omega
      clear hx h h'
      have hne : Nonempty (Later wr.heap.size wr) := Later.some _ _
      have hlc := fun (u : Later wr.heap.size wr) b o h => u.cell b o h
      by_cases hxs : x = s
      · subst hxs
        go_wp2_with fail
        refine wp_region_later wr.heap.size (by kernel_rfl) (by kernel_rfl) ?_
        repeat (go_big_quiet_step (fail))
        refine wpQuiet_nil ?_
        rintro ⟨w1, hb1⟩
        clear hlc hne
        dsimp only
        go_wp2_with fail
        go_ret
        exact ⟨ret_bool (memB_true (List.mem_of_getElem? (unhide HX))).symm, hbw.trans (hb1.mono (by omega))⟩
      · have hrel' : ∀ (w1 : World), Below wr.heap.size wr w1 → ∃ (k' : Nat), k' ≤ l.length ∧ Value.int .i64 ((k : Int) + 1) = .int .i64 k' ∧ (∀ j x, j < k' → l[j]? = some x → x ≠ s) ∧ Below (w.heap.size + 1) (w.alloc (.cells #[.int .i64 s.t, .int .i64 s.ser, .int .i64 s.win] 126)) w1 := fun w1 hb1 => by
          refine ⟨k + 1, by omega, by go_num, fun j y hj hj' => ?_, hb.trans (hb1.mono (by omega))⟩
          by_cases e : j = k
          · subst e; rw [unhide HX] at hj'; cases hj'; exact hxs
          · exact unhide HA j y (by omega) hj'
        have HREL := hide hrel'
        clear hrel'
        have hd := sg_ne hxs
        clear hxs
        rcases hd with hd | ⟨hd0, hd⟩ | ⟨hd0, hd1, hd⟩
        all_goals
          go_wp2_with fail
          refine wp_region_later wr.heap.size (by kernel_rfl) (by kernel_rfl) ?_
          repeat (go_big_quiet_step (fail))
          refine wpQuiet_nil ?_
          rintro ⟨w1, hb1⟩
          clear hlc hne
          dsimp only
          go_wp2_with fail
          go_roundw
          case rel => exact unhide HREL w1 hb1
          case measure => simp [intOf]; omega
    · go_wp2_with fail
      go_ret
      exact ⟨ret_bool (memB_false (not_mem_of (fun j x hj hx => unhide HA j x (by omega) hx))).symm, hbw⟩
end Go.Proofs.YtgadceofpbfleaaGreat
