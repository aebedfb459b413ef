import Derived.Test.YtgadceofpbfleaaGreatQMil0
import Derived.Deep.RegionHeld3

/- Walks: Stats of the program. -/
namespace Go.Proofs.YtgadceofpbfleaaGreat
open Go.RowKit Go.Maps Go.Shelf
set_option linter.unusedVariables false

theorem below8 {B : Nat} {w : World} {g : Nat} (h : B ≤ g) (x0 x1 x2 x3 x4 x5 x6 x7 : Value) : Below B w ((((((((w.setCell ⟨g, 0, none⟩ x0).setCell ⟨g, 1, none⟩ x1).setCell ⟨g, 2, none⟩ x2).setCell ⟨g, 3, none⟩ x3).setCell ⟨g, 4, none⟩ x4).setCell ⟨g, 5, none⟩ x5).setCell ⟨g, 6, none⟩ x6).setCell ⟨g, 7, none⟩ x7) :=
  ((((((((Below.refl _ _).setCell (p := ⟨g, 0, none⟩) h _).setCell (p := ⟨g, 1, none⟩) h _).setCell (p := ⟨g, 2, none⟩) h _).setCell (p := ⟨g, 3, none⟩) h _).setCell (p := ⟨g, 4, none⟩) h _).setCell (p := ⟨g, 5, none⟩) h _).setCell (p := ⟨g, 6, none⟩) h _).setCell (p := ⟨g, 7, none⟩) h _
theorem below_step {W V w' : World} (h1 : Below W.heap.size W V) (h2 : Below V.heap.size V w') : Below W.heap.size W w' := h1.trans (h2.mono h1.size)

def statsV (now u ti ep he wa pu go : Int) : Value := .agg #[.int .i64 now, .int .i64 u, .int .i64 ti, .int .i64 ep, .int .i64 he, .int .i64 wa, .int .i64 pu, .int .i64 go]

set_option maxRecDepth 8000 in
set_option maxHeartbeats 20000000 in
theorem pstats_any {w : World} {x : Nat} {c : Cf} {tv : Value} {ep now : Int} {s lb gb : Nat} {L : LV} (h : MillAt w x c tv ep now s lb gb L) (hc : c.ok) (hu : 0 ≤ usedL L ∧ usedL L ≤ 1000000000000) (h1 : i64B (countL L 1)) (h2 : i64B (countL L 2)) (h3 : i64B (countL L 3)) :
    Calls Tryz.prog 28 #[.pointer (some ⟨x, 0, none⟩)] w fun e w' => e = .returned (.agg #[.int .i64 now, .int .i64 (usedL L), .int .i64 (tightN (usedL L) c.qu), .int .i64 ep, .int .i64 (countL L 1), .int .i64 (countL L 2), .int .i64 (countL L 3), .int .i64 0]) ∧ Below w.heap.size w w' := by
  obtain ⟨a, cap, rfl⟩ := row_slice h.set.trow
  have hq := hc.qu
  have hb0 : Below w.heap.size w (w.alloc (.cells #[.int .i64 0, .int .i64 0, .int .i64 0, .int .i64 0, .int .i64 0, .int .i64 0, .int .i64 0, .int .i64 0] 77)) := (Below.refl _ _).alloc (Nat.le_refl _) _
  have hl0 := rlast w (.cells #[.int .i64 0, .int .i64 0, .int .i64 0, .int .i64 0, .int .i64 0, .int .i64 0, .int .i64 0, .int .i64 0] 77)
  have HU := hide (pused_any ((h.later hb0).set) (by unfold i64B; omega))
  obtain ⟨-, -, -, -, -, -, -, -, -, c9⟩ := h.cells
  have hxl := h.lt
  have H := hide h
  have HB0 := hide hb0
  have HL0 := hide hl0
  clear h hb0 hl0
  obtain ⟨U, hU⟩ : ∃ U, usedL L = U := ⟨_, rfl⟩
  obtain ⟨A1, hA1⟩ : ∃ U, countL L 1 = U := ⟨_, rfl⟩
  obtain ⟨A2, hA2⟩ : ∃ U, countL L 2 = U := ⟨_, rfl⟩
  obtain ⟨A3, hA3⟩ : ∃ U, countL L 3 = U := ⟨_, rfl⟩
  rw [hU, hA1, hA2, hA3]
  obtain ⟨T, hT⟩ : ∃ T, tightN U c.qu = T := ⟨_, rfl⟩
  rw [hT]
  rw [hU] at HU hu
  go_enter Tryz.func28, Tryz.ntmps28
  go_wp2_with fail
  refine (unhide HU).mono ?_
  rintro e W ⟨rfl, hb1⟩
  have hwW := (unhide HB0).trans (hb1.mono (unhide HB0).size)
  have HWW := hide hwW
  have HLW := hide ((hb1.block w.heap.size (by rw [rsize]; omega)).trans (unhide HL0))
  have hmW := (unhide H).later hwW
  obtain ⟨c0, c1, c2, c3, c4, c5, c6, c7, c8, c9⟩ := hmW.cells
  have hxW := hmW.lt
  have hqW := lt_of_heap (unhide HLW)
  have hne1 : ¬ x = w.heap.size := by omega
  have hne2 : ¬ w.heap.size = x := by omega
  have HS := hide hmW.set
  have HMW := hide hmW
  have HC1 := fun (V : World) (hb : Below W.heap.size W V) => hide (pcount_any ((unhide HS).later hb) 1 (by decide) h1)
  have HC2 := fun (V : World) (hb : Below W.heap.size W V) => hide (pcount_any ((unhide HS).later hb) 2 (by decide) h2)
  have HC3 := fun (V : World) (hb : Below W.heap.size W V) => hide (pcount_any ((unhide HS).later hb) 3 (by decide) h3)
  have HC4 := fun (V : World) (hb : Below W.heap.size W V) => hide (pgone_any ((unhide HS).later hb))
  rw [hA1] at HC1
  rw [hA2] at HC2
  rw [hA3] at HC3
  have HQ := fun V => hide (lquota_any c a cap V)
  have HT := fun V => hide (ptight_any U c.qu hu (by omega) V)
  rw [hT] at HT
  have hB0 : Below W.heap.size W W := Below.refl _ _
  have hB1 : Below W.heap.size W W.drew := (Below.refl _ _).drew
  clear hb1 hwW hmW h1 h2 h3 hU hA1 hA2 hA3 HU hT
  go_wp2_with fail
  go_region_held3 (fun w' => w'.cell? ⟨x, 0, none⟩ = some (.int .i64 c.s) ∧ w'.cell? ⟨x, 1, none⟩ = some (.int .i64 c.le) ∧ w'.cell? ⟨x, 2, none⟩ = some (.int .i64 c.la) ∧ w'.cell? ⟨x, 3, none⟩ = some (.int .i64 c.wi) ∧ w'.cell? ⟨x, 4, none⟩ = some (.int .i64 c.ke) ∧ w'.cell? ⟨x, 5, none⟩ = some (.int .i64 c.qu) ∧ w'.cell? ⟨x, 6, none⟩ = some (.slice a c.n cap) ∧ w'.cell? ⟨x, 7, none⟩ = some (.int .i64 ep) ∧ w'.cell? ⟨x, 8, none⟩ = some (.int .i64 now) ∧ w'.cell? ⟨x, 9, none⟩ = some (.pointer (some ⟨s, 0, none⟩))) (go_keep) (first
    | (go_at_call 48; refine (unhide (HQ _)).mono ?_; rintro e w1 ⟨rfl, hb0⟩; have hbW : Below W.heap.size W w1 := below_step (by assumption) hb0; clear hb0; obtain ⟨d0, d1, d2, d3, d4, d5, d6, d7, d8, d9⟩ := ((unhide HMW).later hbW).cells)
    | (go_at_call 47; refine (unhide (HT _)).mono ?_; rintro e w1 ⟨rfl, rfl⟩)
    | (go_at_call 49; (first | (refine (unhide (HC1 _ (by assumption))).mono ?_; clear HC1) | (refine (unhide (HC2 _ (by assumption))).mono ?_; clear HC2) | (refine (unhide (HC3 _ (by assumption))).mono ?_; clear HC3) | refine (unhide (HC4 _ (by assumption))).mono ?_); rintro e w1 ⟨rfl, hb0⟩; have hbW : Below W.heap.size W w1 := below_step (by assumption) hb0; clear hb0; obtain ⟨d0, d1, d2, d3, d4, d5, d6, d7, d8, d9⟩ := ((unhide HMW).later hbW).cells; have hlr := (hbW.block w.heap.size hqW).trans (unhide HLW); have r0 : w1.cell? ⟨w.heap.size, 0, none⟩ = some (.int .i64 0) := (by rw [rcell hlr]; rfl); have r1 : w1.cell? ⟨w.heap.size, 1, none⟩ = some (.int .i64 0) := (by rw [rcell hlr]; rfl); have r2 : w1.cell? ⟨w.heap.size, 2, none⟩ = some (.int .i64 0) := (by rw [rcell hlr]; rfl); have r3 : w1.cell? ⟨w.heap.size, 3, none⟩ = some (.int .i64 0) := (by rw [rcell hlr]; rfl); have r4 : w1.cell? ⟨w.heap.size, 4, none⟩ = some (.int .i64 0) := (by rw [rcell hlr]; rfl); have r5 : w1.cell? ⟨w.heap.size, 5, none⟩ = some (.int .i64 0) := (by rw [rcell hlr]; rfl); have r6 : w1.cell? ⟨w.heap.size, 6, none⟩ = some (.int .i64 0) := (by rw [rcell hlr]; rfl); have r7 : w1.cell? ⟨w.heap.size, 7, none⟩ = some (.int .i64 0) := (by rw [rcell hlr]; rfl); have rf := fun j => rfree hlr j; have HLR := hide hlr; clear hlr))
  go_wp2_with fail
  have hf := set8 (unhide HLR) (.int .i64 now) (.int .i64 U) (.int .i64 T) (.int .i64 ep) (.int .i64 A1) (.int .i64 A2) (.int .i64 A3) (.int .i64 0)
  refine bodyPost_ret (v := .agg #[.int .i64 now, .int .i64 U, .int .i64 T, .int .i64 ep, .int .i64 A1, .int .i64 A2, .int .i64 A3, .int .i64 0]) (results_cell_row Tryz.results28 _ _ w.heap.size _ _ _ _ rfl hf Tryz.underlying77 rfl (by kernel_rfl)) rfl ?_
  exact ⟨rfl, (unhide HWW).trans ((hbW.mono (unhide HWW).size).trans (below8 (Nat.le_refl _) _ _ _ _ _ _ _ _))⟩
end Go.Proofs.YtgadceofpbfleaaGreat
