import Derived.Test.YtpbimdkclnekeaaGreatQRef1
import Derived.Test.YtpbimdkclnekeaaGreatQLater

namespace Go.Proofs.YtpbimdkclnekeaaGreat
open Go.RowKit
set_option linter.unusedVariables false

/-- the document's mill at block p: its tiers, numbers, published and reclaimed segments and jobs lie in rows of their own. -/
structure RefAt (B : Nat) (w : World) (p : Nat) (m : RM) (tv nv pv gv kv : Value) : Prop where
  head : w.heap[p]? = some (.cells #[.int .i64 m.c.s, .int .i64 m.c.le, .int .i64 m.c.la, .int .i64 m.c.wi, .int .i64 m.c.ke, .int .i64 m.c.qu, tv, .int .i64 m.now, nv, pv, gv, kv, .int .i64 m.epoch, .int .i64 m.picks] 190 (0, 0))
  base : B ≤ p
  trow : w.ownsRow B 66 3 tv m.c.n (row3 m.c.n m.c.F m.c.W m.c.K)
  nrow : w.ownsRow B 269 3 nv m.nums.length (m.nums.flatMap nmV)
  prow : w.ownsRow B 232 3 pv m.pub.length (m.pub.flatMap sgV)
  grow : w.ownsRow B 232 3 gv m.gone.length (m.gone.flatMap sgV)
  krow : w.ownsRow B 239 11 kv m.tasks.length (m.tasks.flatMap tkV)

section
variable {B : Nat} {w : World} {p : Nat} {m : RM} {tv nv pv gv kv : Value}

/-- its blocks. -/
def rfoot (p : Nat) (tv nv pv gv kv : Value) (k : Nat) : Prop := k = p ∨ tv.ownBlock = some k ∨ nv.ownBlock = some k ∨ pv.ownBlock = some k ∨ gv.ownBlock = some k ∨ kv.ownBlock = some k

theorem RefAt.kept {f : Nat → Prop} {w' : World} (h : RefAt B w p m tv nv pv gv kv) (hk : Kept f w w') (hn : ∀ k, rfoot p tv nv pv gv kv k → ¬ f k) : RefAt B w' p m tv nv pv gv kv :=
  ⟨hk.heap h.head (hn p (.inl rfl)), h.base, owns_kept h.trow hk (fun k hh => hn k (.inr (.inl hh))), owns_kept h.nrow hk (fun k hh => hn k (.inr (.inr (.inl hh)))), owns_kept h.prow hk (fun k hh => hn k (.inr (.inr (.inr (.inl hh))))), owns_kept h.grow hk (fun k hh => hn k (.inr (.inr (.inr (.inr (.inl hh)))))), owns_kept h.krow hk (fun k hh => hn k (.inr (.inr (.inr (.inr (.inr hh))))))⟩
theorem RefAt.later {w' : World} (h : RefAt B w p m tv nv pv gv kv) (hb : Below w.heap.size w w') : RefAt B w' p m tv nv pv gv kv :=
  h.kept (f := fun _ => False) (Kept.of_below hb) (fun _ _ hh => hh)
theorem RefAt.lt (h : RefAt B w p m tv nv pv gv kv) : p < w.heap.size := lt_of_heap h.head

theorem RefAt.rest (h : RefAt B w p m tv nv pv gv kv) : w.cell? ⟨p, 7, none⟩ = some (.int .i64 m.now) ∧ w.cell? ⟨p, 8, none⟩ = some nv ∧ w.cell? ⟨p, 9, none⟩ = some pv ∧ w.cell? ⟨p, 10, none⟩ = some gv ∧ w.cell? ⟨p, 11, none⟩ = some kv ∧ w.cell? ⟨p, 12, none⟩ = some (.int .i64 m.epoch) ∧ w.cell? ⟨p, 13, none⟩ = some (.int .i64 m.picks) := by
  refine ⟨?_, ?_, ?_, ?_, ?_, ?_, ?_⟩ <;> rw [rcell h.head] <;> rfl
end

/-- tiers in a row of their own. -/
theorem TS.of_owns {w : World} {B : Nat} {e : TypeId} {a : Option Addr} {n cap : Nat} {F W K : Nat → Int} (h : w.ownsRow B e 3 (.slice a n cap) n (row3 n F W K)) : TS w a n F W K := fun h0 => by
  obtain ⟨g, cap', hv, hb, hlt⟩ := h.form h0
  cases hv
  refine ⟨g, 0, rfl, hlt, fun i hi => ?_⟩
  have e : ∀ j, j < n * 3 → w.cell? ⟨g, j, none⟩ = some (cell3 F W K j) := fun j hj => by
    rw [h.cellAt _ hj, row3_get n F W K j hj]
  refine ⟨?_, ?_, ?_⟩
  · rw [e _ (by omega)]; simp [cell3]
  · have h1 : (i * 3 + 1) / 3 = i := by omega
    rw [e _ (by omega)]; simp [cell3, Nat.add_mod, h1]
  · have h1 : (i * 3 + 2) / 3 = i := by omega
    rw [e _ (by omega)]; simp [cell3, Nat.add_mod, h1]

theorem box2 (w : World) (o1 o2 : Obj) : ((w.alloc o1).alloc o2).heap[w.heap.size]? = some o1 ∧ ((w.alloc o1).alloc o2).heap[w.heap.size + 1]? = some o2 ∧ Below w.heap.size w ((w.alloc o1).alloc o2) ∧ ((w.alloc o1).alloc o2).heap.size = w.heap.size + 2 := by
  refine ⟨(Below.heap_alloc _ _ _ (by simp)).trans (rlast _ _), by have := rlast (w.alloc o1) o2; rw [rsize] at this; exact this, ((Below.refl _ _).alloc (Nat.le_refl _) _).alloc (by simp) _, by simp⟩

theorem rset {w : World} {g i : Nat} {cs : Array Value} {t : TypeId} {fr : Nat × Nat} (h : w.heap[g]? = some (.cells cs t fr)) (v : Value) : (w.setCell ⟨g, i, none⟩ v).heap[g]? = some (.cells (cs.setIfInBounds i v) t fr) := by
  rw [setCell_eq_setRow w g i cs t fr v h]
  exact setRow_heap w g _ _ t _ h
theorem set3 {w : World} {g : Nat} {a b c : Value} {t : TypeId} {fr : Nat × Nat} (h : w.heap[g]? = some (.cells #[a, b, c] t fr)) (x y z : Value) : ((((w.setCell ⟨g, 0, none⟩ x).setCell ⟨g, 1, none⟩ y).setCell ⟨g, 2, none⟩ z).drew).heap[g]? = some (.cells #[x, y, z] t fr) := by
  have := rset (i := 2) (rset (i := 1) (rset (i := 0) h x) y) z
  exact this
end Go.Proofs.YtpbimdkclnekeaaGreat
