import Derived.Test.YtpbimdkclnekeaaGreatQRefB

namespace Go.Proofs.YtpbimdkclnekeaaGreat
open Go.RowKit
set_option linter.unusedVariables false

theorem Tryz.infoTierR : (Tryz.prog.info? 66).map (fun i => (i.zero, i.size, i.bytes)) = some (some (.agg #[.int .i64 0, .int .i64 0, .int .i64 0]), 3, 24) := by kernel_rfl

theorem tsCells {w : World} {a : Option Addr} {n : Nat} {F W K : Nat → Int} (h : TS w a n F W K) : 0 < (row3 n F W K).length → ∃ ad, a = some ad ∧ ∀ j v, (row3 n F W K)[j]? = some v → w.cell? (ad.add j) = some v := by
  intro h0
  rw [row3_length] at h0
  obtain ⟨b, off, rfl, _, hc⟩ := h (by omega)
  refine ⟨_, rfl, fun j v hv => ?_⟩
  have hj : j < n * 3 := by
    have := (List.getElem?_eq_some_iff.1 hv).1; rwa [row3_length] at this
  rw [row3_get n F W K j hj] at hv
  cases hv
  have hadd : (⟨b, off, none⟩ : Addr).add j = ⟨b, off + j, none⟩ := by unfold Addr.add; split <;> simp_all
  rw [hadd]
  obtain ⟨c0, c1, c2⟩ := hc (j / 3) (by omega)
  rcases (show j % 3 = 0 ∨ j % 3 = 1 ∨ j % 3 = 2 by omega) with e | e | e
  · have ej : j = j / 3 * 3 := by omega
    rw [ej, cell3_0]; exact c0
  · have ej : j = j / 3 * 3 + 1 := by omega
    rw [ej, cell3_1]; exact c1
  · have ej : j = j / 3 * 3 + 2 := by omega
    rw [ej, cell3_2]; exact c2

end Go.Proofs.YtpbimdkclnekeaaGreat
