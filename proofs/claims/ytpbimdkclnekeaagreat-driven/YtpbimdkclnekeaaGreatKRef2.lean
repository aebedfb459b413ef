import Derived.Test.YtpbimdkclnekeaaGreatKOpen
import Derived.Test.YtpbimdkclnekeaaGreatKLater
import Derived.Test.YtpbimdkclnekeaaGreatKConf2

namespace Go.Proofs.YtpbimdkclnekeaaGreat
open Go.RowKit
set_option linter.unusedVariables false
section
variable {B : Nat} {w : World} {p : Nat} {m : RM} {tv nv pv gv kv : Value}
end
theorem TS.of_owns {w : World} {B : Nat} {e : TypeId} {a : Option Addr} {n cap : Nat} {F W K : Nat -> Int} (h : w.ownsRow B e 3 (.slice a n cap) n (row3 n F W K)) : TS w a n F W K := fun h0 => by
 obtain ⟨g, cap', hv, hb, hlt⟩ := h.form h0
 cases hv
 refine ⟨g, 0, rfl, hlt, fun i hi => ?_⟩
 have e : ∀ j, j < n * 3 -> w.cell? ⟨g, j, none⟩ = some (cell3 F W K j) := fun j hj => by
  rw [h.cellAt _ hj, row3_get n F W K j hj]
 refine ⟨?_, ?_, ?_⟩
 ·rw [e _ (by omega)]; simp [cell3]
 ·have h1 : (i * 3 + 1) / 3 = i := by omega
  rw [e _ (by omega)]; simp [cell3, Nat.add_mod, h1]
 ·have h1 : (i * 3 + 2) / 3 = i := by omega
  rw [e _ (by omega)]; simp [cell3, Nat.add_mod, h1]
theorem box2 (w : World) (o1 o2 : Obj) : ((w.alloc o1).alloc o2).heap[w.heap.size]? = some o1 /\ ((w.alloc o1).alloc o2).heap[w.heap.size + 1]? = some o2 /\ Below w.heap.size w ((w.alloc o1).alloc o2) /\ ((w.alloc o1).alloc o2).heap.size = w.heap.size + 2 := by
 refine ⟨(Below.heap_alloc _ _ _ (by simp)).trans (zag _ _), by have := zag (w.alloc o1) o2; rw [zbm] at this; exact this, ((Below.refl _ _).alloc (Nat.le_refl _) _).alloc (by simp) _, by simp⟩
theorem zcu {w : World} {g i : Nat} {cs : Array Value} {t : TypeId} {fr : Nat × Nat} (h : w.heap[g]? = some (.cells cs t fr)) (v : Value) : (w.setCell ⟨g, i, none⟩ v).heap[g]? = some (.cells (cs.setIfInBounds i v) t fr) := by
 rw [setCell_eq_setRow w g i cs t fr v h]
 exact setRow_heap w g _ _ t _ h
theorem set3 {w : World} {g : Nat} {a b c : Value} {t : TypeId} {fr : Nat × Nat} (h : w.heap[g]? = some (.cells #[a, b, c] t fr)) (x y z : Value) : ((((w.setCell ⟨g, 0, none⟩ x).setCell ⟨g, 1, none⟩ y).setCell ⟨g, 2, none⟩ z).drew).heap[g]? = some (.cells #[x, y, z] t fr) := by
 have := zcu (i := 2) (zcu (i := 1) (zcu (i := 0) h x) y) z
 exact this
end Go.Proofs.YtpbimdkclnekeaaGreat

namespace Go.Proofs.YtpbimdkclnekeaaGreat
open Value (int)
open IntKind (i64)
open Go.RowKit
set_option maxHeartbeats 1000000 in
theorem layoutRight_any (s le la wi ke qu : Int) (a : Option Addr) (n cap : Nat) (F W K : Nat -> Int) (w : World) (h : TS w a n F W K) :
  Calls Tryz.prog 120 #[.agg #[int i64 s, int i64 le, int i64 la, int i64 wi, int i64 ke, int i64 qu, .slice a n cap]] w fun e w' => e = .returned (.bool (zdh s le la wi ke qu n F W K)) /\ Below w.heap.size w w' := by
 cases e0 : inB s 1 4
 ·have HF : Hid (zdh s le la wi ke qu n F W K = false) := by show _ = _; simp [zdh, e0]
  go_enter Tryz.func120, Tryz.ntmps120
  go_wp2_with (go_at_call 77; refine (zcm _ _ _ _).mono ?_; rintro e w' ⟨rfl, rfl⟩)
  go_ret
  exact ⟨zcs HF.out.symm, (Below.refl _ _).alloc (Nat.le_refl _) _⟩
 cases e1 : inB le 1 100
 ·have HF : Hid (zdh s le la wi ke qu n F W K = false) := by show _ = _; simp [zdh, e1]
  go_enter Tryz.func120, Tryz.ntmps120
  go_wp2_with (go_at_call 77; refine (zcm _ _ _ _).mono ?_; rintro e w' ⟨rfl, rfl⟩)
  go_ret
  exact ⟨zcs HF.out.symm, (Below.refl _ _).alloc (Nat.le_refl _) _⟩
 cases e2 : inB la 0 100
 ·have HF : Hid (zdh s le la wi ke qu n F W K = false) := by show _ = _; simp [zdh, e2]
  go_enter Tryz.func120, Tryz.ntmps120
  go_wp2_with (go_at_call 77; refine (zcm _ _ _ _).mono ?_; rintro e w' ⟨rfl, rfl⟩)
  go_ret
  exact ⟨zcs HF.out.symm, (Below.refl _ _).alloc (Nat.le_refl _) _⟩
 cases e3 : inB wi 1 50
 ·have HF : Hid (zdh s le la wi ke qu n F W K = false) := by show _ = _; simp [zdh, e3]
  go_enter Tryz.func120, Tryz.ntmps120
  go_wp2_with (go_at_call 77; refine (zcm _ _ _ _).mono ?_; rintro e w' ⟨rfl, rfl⟩)
  go_ret
  exact ⟨zcs HF.out.symm, (Below.refl _ _).alloc (Nat.le_refl _) _⟩
 cases e4 : inB ke 0 1000
 ·have HF : Hid (zdh s le la wi ke qu n F W K = false) := by show _ = _; simp [zdh, e4]
  go_enter Tryz.func120, Tryz.ntmps120
  go_wp2_with (go_at_call 77; refine (zcm _ _ _ _).mono ?_; rintro e w' ⟨rfl, rfl⟩)
  go_ret
  exact ⟨zcs HF.out.symm, (Below.refl _ _).alloc (Nat.le_refl _) _⟩
 cases e5 : inB qu 1 400
 ·have HF : Hid (zdh s le la wi ke qu n F W K = false) := by show _ = _; simp [zdh, e5]
  go_enter Tryz.func120, Tryz.ntmps120
  go_wp2_with (go_at_call 77; refine (zcm _ _ _ _).mono ?_; rintro e w' ⟨rfl, rfl⟩)
  go_ret
  exact ⟨zcs HF.out.symm, (Below.refl _ _).alloc (Nat.le_refl _) _⟩
 cases e6 : inB (n : Int) 1 4
 ·have HF : Hid (zdh s le la wi ke qu n F W K = false) := by show _ = _; simp [zdh, e6]
  go_enter Tryz.func120, Tryz.ntmps120
  go_wp2_with (go_at_call 77; refine (zcm _ _ _ _).mono ?_; rintro e w' ⟨rfl, rfl⟩)
  go_ret
  exact ⟨zcs HF.out.symm, (Below.refl _ _).alloc (Nat.le_refl _) _⟩
 have hn : n <= 4 := by rw [inB_iff] at e6; omega
 have hwi : 1 <= wi /\ wi <= 1000 := by rw [inB_iff] at e3; omega
 have h1 : TS (w.alloc (.cells #[int i64 s, int i64 le, int i64 la, int i64 wi, int i64 ke, int i64 qu, .slice a n cap] 27)) a n F W K := h.below ((Below.refl _ _).alloc (Nat.le_refl _) _)
 cases e7 : allB n (tierB n F W K)
 ·have HF : Hid (zdh s le la wi ke qu n F W K = false) := by show _ = _; simp [zdh, e7]
  go_enter Tryz.func120, Tryz.ntmps120
  go_wp2_with (first | (go_at_call 77; refine (zcm _ _ _ _).mono ?_; rintro e w' ⟨rfl, rfl⟩) | (go_at_call 171; refine (bounds_any _ n cap F W K hn _ h1).mono ?_; rintro e w' ⟨rfl, hb⟩))
  go_ret
  exact ⟨zcs HF.out.symm, ((Below.refl _ _).alloc (Nat.le_refl _) _).trans (hb.mono (by simp))⟩
 ·have hF : ∀ i, i < n -> -1 <= F i /\ F i < n := fun i hi => by
   have := (allB_iff _ _).1 e7 i hi; simp only [tierB, Bool.and_eq_true, inB_iff] at this; omega
  have hW : ∀ i, i < n -> 1 <= W i /\ W i <= 1000 := fun i hi => by
   have := (allB_iff _ _).1 e7 i hi; simp only [tierB, Bool.and_eq_true, inB_iff] at this; omega
  have HR : Hid (zdh s le la wi ke qu n F W K = allB n (fitB n wi F W)) := by show _ = _; simp [zdh, e0, e1, e2, e3, e4, e5, e6, e7]
  go_enter Tryz.func120, Tryz.ntmps120
  go_wp2_with (first | (go_at_call 77; refine (zcm _ _ _ _).mono ?_; rintro e w' ⟨rfl, rfl⟩) | (go_at_call 171; refine (bounds_any _ n cap F W K hn _ h1).mono ?_; rintro e w' ⟨rfl, hb⟩; obtain ⟨_, c0, c1, c2, c3, c4, c5, c6⟩ := (CF.made w 27 (0, 0) s le la wi ke qu a n cap).below hb (by simp)) | (go_at_call 172; refine (fit_any s le la wi ke qu _ n cap F W K hn hF hwi hW _ (h1.below hb)).mono ?_; rintro e w2 ⟨rfl, hb2⟩))
  go_ret
  exact ⟨zcs HR.out.symm, (((Below.refl _ _).alloc (Nat.le_refl _) _).trans (hb.mono (by simp))).trans (hb2.mono (by have := hb.size; simp at this; omega))⟩
set_option maxHeartbeats 1000000 in
theorem millRight_any (s le la wi ke qu : Int) (a : Option Addr) (n cap : Nat) (F W K : Nat -> Int) (w : World) (h : TS w a n F W K) :
  Calls Tryz.prog 61 #[.agg #[int i64 s, int i64 le, int i64 la, int i64 wi, int i64 ke, int i64 qu, .slice a n cap]] w fun e w' => e = .returned (int i64 (codeOf (zdh s le la wi ke qu n F W K))) /\ Below w.heap.size w w' := by
 have h1 : TS (w.alloc (.cells #[int i64 s, int i64 le, int i64 la, int i64 wi, int i64 ke, int i64 qu, .slice a n cap] 27)) a n F W K := h.below ((Below.refl _ _).alloc (Nat.le_refl _) _)
 cases e : zdh s le la wi ke qu n F W K
 all_goals
  go_enter Tryz.func61, Tryz.ntmps61
  go_wp2_with (go_at_call 120; refine (layoutRight_any s le la wi ke qu _ n cap F W K _ h1).mono ?_; rintro e w' ⟨rfl, hb⟩)
  go_ret
  exact ⟨rfl, ((Below.refl _ _).alloc (Nat.le_refl _) _).trans (hb.mono (by simp))⟩
end Go.Proofs.YtpbimdkclnekeaaGreat

namespace Go.Proofs.YtpbimdkclnekeaaGreat
open Go.RowKit
set_option linter.unusedVariables false
def Cf.end (c : Cf) (s : Sg) : Int := (s.win + 1) * c.width s.t
def Cf.keep (c : Cf) (t : Int) : Int := if t = -1 then c.ke else c.K t.toNat
theorem Cf.ok.keeps {c : Cf} (h : c.ok) {t : Int} (h1 : -1 <= t) (h2 : t < c.n) : 0 <= c.keep t /\ c.keep t <= 1000 := by
 unfold Cf.keep
 split
 ·exact h.ke
 ·exact h.K _ (by omega)
end Go.Proofs.YtpbimdkclnekeaaGreat

namespace Go.Proofs.YtpbimdkclnekeaaGreat
open Value (int)
open IntKind (i64)
open Go.RowKit
set_option linter.unusedVariables false
theorem below_set {n : Nat} {a w : World} {g i : Nat} {v : Value} (h : Below n a w) (hg : n <= g) : Below n a (w.setCell ⟨g, i, none⟩ v) := h.setCell (p := ⟨g, i, none⟩) hg v
theorem set4 {w : World} {g : Nat} {a b c d : Value} {t : TypeId} {fr : Nat × Nat} (h : w.heap[g]? = some (.cells #[a, b, c, d] t fr)) (x y z u : Value) : ((((w.setCell ⟨g, 0, none⟩ x).setCell ⟨g, 1, none⟩ y).setCell ⟨g, 2, none⟩ z).setCell ⟨g, 3, none⟩ u).heap[g]? = some (.cells #[x, y, z, u] t fr) :=
 zcu (i := 3) (zcu (i := 2) (zcu (i := 1) (zcu (i := 0) h x) y) z) u
def clObj (A : Cl) : Obj := .cells #[int i64 A.cnt, int i64 A.sum, .int .i32 A.mn, .int .i32 A.mx] 114 (0, 0)
theorem cl_23 {w : World} {g : Nat} {A : Cl} (h : w.heap[g]? = some (clObj A)) (c s a b : Int) : ((((w.setCell ⟨g, 2, none⟩ (.int .i32 a)).setCell ⟨g, 3, none⟩ (.int .i32 b)).setCell ⟨g, 0, none⟩ (int i64 c)).setCell ⟨g, 1, none⟩ (int i64 s)).heap[g]? = some (clObj ⟨c, s, a, b⟩) :=
 zcu (i := 1) (zcu (i := 0) (zcu (i := 3) (zcu (i := 2) h (.int .i32 a)) (.int .i32 b)) (int i64 c)) (int i64 s)
theorem cl_2 {w : World} {g : Nat} {A : Cl} (h : w.heap[g]? = some (clObj A)) (c s a : Int) : (((w.setCell ⟨g, 2, none⟩ (.int .i32 a)).setCell ⟨g, 0, none⟩ (int i64 c)).setCell ⟨g, 1, none⟩ (int i64 s)).heap[g]? = some (clObj ⟨c, s, a, A.mx⟩) :=
 zcu (i := 1) (zcu (i := 0) (zcu (i := 2) h (.int .i32 a)) (int i64 c)) (int i64 s)
theorem cl_3 {w : World} {g : Nat} {A : Cl} (h : w.heap[g]? = some (clObj A)) (c s b : Int) : (((w.setCell ⟨g, 3, none⟩ (.int .i32 b)).setCell ⟨g, 0, none⟩ (int i64 c)).setCell ⟨g, 1, none⟩ (int i64 s)).heap[g]? = some (clObj ⟨c, s, A.mn, b⟩) :=
 zcu (i := 1) (zcu (i := 0) (zcu (i := 3) h (.int .i32 b)) (int i64 c)) (int i64 s)
theorem cl_0 {w : World} {g : Nat} {A : Cl} (h : w.heap[g]? = some (clObj A)) (c s : Int) : ((w.setCell ⟨g, 0, none⟩ (int i64 c)).setCell ⟨g, 1, none⟩ (int i64 s)).heap[g]? = some (clObj ⟨c, s, A.mn, A.mx⟩) :=
 zcu (i := 1) (zcu (i := 0) h (int i64 c)) (int i64 s)
end Go.Proofs.YtpbimdkclnekeaaGreat
