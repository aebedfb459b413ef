import Derived.Test.YtpbimdkclnekeaaGreatGBsy0

namespace Go.Proofs.YtpbimdkclnekeaaGreat
open Go.RowKit Go.Maps Go.Shelf
open Go.ChangeMaps (setBlock)
set_option linter.unusedVariables false
theorem below_more {a w : World} (h : Below a.heap.size a w) (o : Obj) : Below a.heap.size a (w.alloc o) := h.alloc h.size o
theorem fresh1 (W : World) (z : Obj) : (W.alloc z).heap[W.heap.size]? = some z := rlast W z
theorem fresh2a (W : World) (z z2 : Obj) : ((W.alloc z).alloc z2).heap[W.heap.size]? = some z := (Below.heap_alloc _ _ _ (by simp)).trans (rlast _ _)
theorem fresh2b (W : World) (z z2 : Obj) : ((W.alloc z).alloc z2).heap[W.heap.size + 1]? = some z2 := by have := rlast (W.alloc z) z2; rwa [rsize] at this
abbrev set4s (w : World) (g : Nat) (a b c d : Value) : World := (((w.setCell ⟨g, 0, none⟩ a).setCell ⟨g, 1, none⟩ b).setCell ⟨g, 2, none⟩ c).setCell ⟨g, 3, none⟩ d
theorem set4_at {w : World} {g : Nat} {p q r s : Value} {t : TypeId} {fr : Nat × Nat} (h : w.heap[g]? = some (.cells #[p, q, r, s] t fr)) (a b c d : Value) : (set4s w g a b c d).heap[g]? = some (.cells #[a, b, c, d] t fr) := rset (i := 3) (rset (i := 2) (rset (i := 1) (rset (i := 0) h a) b) c) d
theorem set4_off {w : World} {g k : Nat} (h : k ≠ g) (a b c d : Value) : (set4s w g a b c d).heap[k]? = w.heap[k]? := by
  unfold set4s
  rw [Below.heap_setCell _ ⟨g, 3, none⟩ _ _ h, Below.heap_setCell _ ⟨g, 2, none⟩ _ _ h, Below.heap_setCell _ ⟨g, 1, none⟩ _ _ h, Below.heap_setCell _ ⟨g, 0, none⟩ _ _ h]
theorem below4s {B : Nat} {w : World} {g : Nat} (h : B ≤ g) (a b c d : Value) : Below B w (set4s w g a b c d) := ((((Below.refl _ _).setCell (p := ⟨g, 0, none⟩) h _).setCell (p := ⟨g, 1, none⟩) h _).setCell (p := ⟨g, 2, none⟩) h _).setCell (p := ⟨g, 3, none⟩) h _
theorem size4s (w : World) (g : Nat) (a b c d : Value) : (set4s w g a b c d).heap.size = w.heap.size := by simp [set4s]
theorem old_new {w : World} {g : Nat} {p q r s : Value} {t : TypeId} {fr : Nat × Nat} (h : w.heap[g]? = some (.cells #[p, q, r, s] t fr)) (a b c d : Value) (o : Obj) : ((set4s w g a b c d).alloc o).heap[g]? = some (.cells #[a, b, c, d] t fr) :=
  (Below.heap_alloc _ _ _ (by rw [size4s]; exact lt_of_heap h)).trans (set4_at h a b c d)
theorem new_old (w : World) (g : Nat) (a b c d : Value) (o : Obj) : ((set4s w g a b c d).alloc o).heap[w.heap.size]? = some o := by have := rlast (set4s w g a b c d) o; rwa [size4s] at this
theorem new_set {w : World} {g : Nat} (h : w.heap.size ≠ g) (a b c d : Value) (o : Obj) : (set4s (w.alloc o) g a b c d).heap[w.heap.size]? = some o := (set4_off h a b c d).trans (rlast _ _)
theorem old_set {w : World} {g : Nat} {p q r s : Value} {t : TypeId} {fr : Nat × Nat} (h : w.heap[g]? = some (.cells #[p, q, r, s] t fr)) (a b c d : Value) (o : Obj) : (set4s (w.alloc o) g a b c d).heap[g]? = some (.cells #[a, b, c, d] t fr) :=
  set4_at ((Below.heap_alloc _ _ _ (lt_of_heap h)).trans h) a b c d
theorem two_fst {w : World} {g k : Nat} {p q r s : Value} {t : TypeId} {fr : Nat × Nat} (hn : g ≠ k) (h : w.heap[g]? = some (.cells #[p, q, r, s] t fr)) (a b c d a' b' c' d' : Value) : (set4s (set4s w g a b c d) k a' b' c' d').heap[g]? = some (.cells #[a, b, c, d] t fr) := (set4_off hn a' b' c' d').trans (set4_at h a b c d)
theorem two_snd {w : World} {g k : Nat} {p q r s : Value} {t : TypeId} {fr : Nat × Nat} (hn : k ≠ g) (h : w.heap[k]? = some (.cells #[p, q, r, s] t fr)) (a b c d a' b' c' d' : Value) : (set4s (set4s w g a b c d) k a' b' c' d').heap[k]? = some (.cells #[a', b', c', d'] t fr) := set4_at ((set4_off hn a b c d).trans h) a' b' c' d'
theorem bel_aa {n0 : Nat} {w V : World} (h : Below n0 w V) (h1 : n0 ≤ V.heap.size) (o o2 : Obj) : Below n0 w ((V.alloc o).alloc o2) := (h.alloc h1 o).alloc (by rw [rsize]; omega) o2
theorem bel_sa {n0 g : Nat} {w V : World} (h : Below n0 w V) (h1 : n0 ≤ V.heap.size) (h2 : n0 ≤ g) (a b c d : Value) (o : Obj) : Below n0 w ((set4s V g a b c d).alloc o) := (h.trans (below4s h2 a b c d)).alloc (by rw [size4s]; exact h1) o
theorem bel_as {n0 g : Nat} {w V : World} (h : Below n0 w V) (h1 : n0 ≤ V.heap.size) (h2 : n0 ≤ g) (a b c d : Value) (o : Obj) : Below n0 w (set4s (V.alloc o) g a b c d) := (h.alloc h1 o).trans (below4s h2 a b c d)
theorem bel_ss {n0 g k : Nat} {w V : World} (h : Below n0 w V) (h1 : n0 ≤ g) (h2 : n0 ≤ k) (a b c d a' b' c' d' : Value) : Below n0 w (set4s (set4s V g a b c d) k a' b' c' d') := (h.trans (below4s h1 a b c d)).trans (below4s h2 a' b' c' d')
def byKeyV (x y : Tsk) : Int := orL [cmpJ x.kd y.kd, cmpJ x.s.t y.s.t, cmpJ x.s.ser y.s.ser, cmpJ x.s.win y.s.win]
end Go.Proofs.YtpbimdkclnekeaaGreat
