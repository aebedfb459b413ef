import Derived.Test.YtpbimdkclnekeaaGreatHRef2

namespace Go.Proofs.YtpbimdkclnekeaaGreat
open Go.RowKit
set_option linter.unusedVariables false
def Cf.end (c : Cf) (s : Sg) : Int := (s.win + 1) * c.width s.t
def Cf.keep (c : Cf) (t : Int) : Int := if t = -1 then c.ke else c.K t.toNat
theorem Cf.ok.keeps {c : Cf} (h : c.ok) {t : Int} (h1 : -1 ≤ t) (h2 : t < c.n) : 0 ≤ c.keep t ∧ c.keep t ≤ 1000 := by
  unfold Cf.keep
  split
  · exact h.ke
  · exact h.K _ (by omega)
end Go.Proofs.YtpbimdkclnekeaaGreat

namespace Go.Proofs.YtpbimdkclnekeaaGreat
open Go.RowKit
set_option linter.unusedVariables false
theorem below_set {n : Nat} {a w : World} {g i : Nat} {v : Value} (h : Below n a w) (hg : n ≤ g) : Below n a (w.setCell ⟨g, i, none⟩ v) := h.setCell (p := ⟨g, i, none⟩) hg v
theorem set4 {w : World} {g : Nat} {a b c d : Value} {t : TypeId} {fr : Nat × Nat} (h : w.heap[g]? = some (.cells #[a, b, c, d] t fr)) (x y z u : Value) : ((((w.setCell ⟨g, 0, none⟩ x).setCell ⟨g, 1, none⟩ y).setCell ⟨g, 2, none⟩ z).setCell ⟨g, 3, none⟩ u).heap[g]? = some (.cells #[x, y, z, u] t fr) :=
  rset (i := 3) (rset (i := 2) (rset (i := 1) (rset (i := 0) h x) y) z) u
def clObj (A : Cl) : Obj := .cells #[.int .i64 A.cnt, .int .i64 A.sum, .int .i32 A.mn, .int .i32 A.mx] 114 (0, 0)
theorem cl_23 {w : World} {g : Nat} {A : Cl} (h : w.heap[g]? = some (clObj A)) (c s a b : Int) : ((((w.setCell ⟨g, 2, none⟩ (.int .i32 a)).setCell ⟨g, 3, none⟩ (.int .i32 b)).setCell ⟨g, 0, none⟩ (.int .i64 c)).setCell ⟨g, 1, none⟩ (.int .i64 s)).heap[g]? = some (clObj ⟨c, s, a, b⟩) :=
  rset (i := 1) (rset (i := 0) (rset (i := 3) (rset (i := 2) h (.int .i32 a)) (.int .i32 b)) (.int .i64 c)) (.int .i64 s)
theorem cl_2 {w : World} {g : Nat} {A : Cl} (h : w.heap[g]? = some (clObj A)) (c s a : Int) : (((w.setCell ⟨g, 2, none⟩ (.int .i32 a)).setCell ⟨g, 0, none⟩ (.int .i64 c)).setCell ⟨g, 1, none⟩ (.int .i64 s)).heap[g]? = some (clObj ⟨c, s, a, A.mx⟩) :=
  rset (i := 1) (rset (i := 0) (rset (i := 2) h (.int .i32 a)) (.int .i64 c)) (.int .i64 s)
theorem cl_3 {w : World} {g : Nat} {A : Cl} (h : w.heap[g]? = some (clObj A)) (c s b : Int) : (((w.setCell ⟨g, 3, none⟩ (.int .i32 b)).setCell ⟨g, 0, none⟩ (.int .i64 c)).setCell ⟨g, 1, none⟩ (.int .i64 s)).heap[g]? = some (clObj ⟨c, s, A.mn, b⟩) :=
  rset (i := 1) (rset (i := 0) (rset (i := 3) h (.int .i32 b)) (.int .i64 c)) (.int .i64 s)
theorem cl_0 {w : World} {g : Nat} {A : Cl} (h : w.heap[g]? = some (clObj A)) (c s : Int) : ((w.setCell ⟨g, 0, none⟩ (.int .i64 c)).setCell ⟨g, 1, none⟩ (.int .i64 s)).heap[g]? = some (clObj ⟨c, s, A.mn, A.mx⟩) :=
  rset (i := 1) (rset (i := 0) h (.int .i64 c)) (.int .i64 s)
end Go.Proofs.YtpbimdkclnekeaaGreat
