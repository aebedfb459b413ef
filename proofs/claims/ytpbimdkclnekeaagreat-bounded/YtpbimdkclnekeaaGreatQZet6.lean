import Derived.Test.YtpbimdkclnekeaaGreatQCnt0

namespace Go.Proofs.YtpbimdkclnekeaaGreat
open Go.RowKit Go.Maps Go.Shelf
open Go.ChangeMaps (setBlock)
set_option linter.unusedVariables false

def manyOf (c : Cf) (k : Nat) : Int := c.width (k : Int) / c.width (c.F k)
theorem many_bounds {c : Cf} (hc : c.ok) {k : Nat} (hk : k < c.n) : 0 ≤ manyOf c k ∧ manyOf c k ≤ 1000 := by
  obtain ⟨h1, h2⟩ := hc.width (t := (k : Int)) (by omega) (by omega)
  obtain ⟨f1, f2⟩ := hc.F k hk
  obtain ⟨h3, h4⟩ := hc.width f1 f2
  unfold manyOf
  constructor
  · exact Int.ediv_nonneg (by omega) (by omega)
  · have := Int.ediv_le_self (b := c.width (c.F k)) (show 0 ≤ c.width (k : Int) by omega); omega

set_option maxHeartbeats 1000000 in
set_option maxRecDepth 20000 in
theorem lbelow_any (c : Cf) (hc : c.ok) (a : Option Addr) (cap : Nat) (k : Nat) (hk : k < c.n) (win : Int) (hwn : 0 ≤ win ∧ win ≤ 100000) (w : World) (hts : TS w a c.n c.F c.W c.K) : Calls Tryz.prog 190 #[.agg #[.int .i64 c.s, .int .i64 c.le, .int .i64 c.la, .int .i64 c.wi, .int .i64 c.ke, .int .i64 c.qu, .slice a c.n cap], .int .i64 k, .int .i64 win] w fun e w' => e = .returned (.tuple #[.int .i64 (c.F k), .int .i64 (win * manyOf c k), .int .i64 ((win + 1) * manyOf c k)]) ∧ Below w.heap.size w w' := by
  have hn4 := hc.n4
  obtain ⟨f1, f2⟩ := hc.F k hk
  obtain ⟨hw1, hw2⟩ := hc.width (t := (k : Int)) (by omega) (by omega)
  obtain ⟨hw3, hw4⟩ := hc.width f1 f2
  obtain ⟨hm1, hm2⟩ := many_bounds hc hk
  obtain ⟨hn1, hn2⟩ := hwn
  have hb0 : Below w.heap.size w (w.alloc (.cells #[.int .i64 c.s, .int .i64 c.le, .int .i64 c.la, .int .i64 c.wi, .int .i64 c.ke, .int .i64 c.qu, .slice a c.n cap] 80)) := (Below.refl _ _).alloc (Nat.le_refl _) _
  have hp1 : 0 ≤ win * manyOf c k ∧ win * manyOf c k ≤ 100000000 := ⟨Int.mul_nonneg hn1 hm1, by have := Int.mul_le_mul hn2 hm2 hm1 (by omega); omega⟩
  have hp2 : 0 ≤ (win + 1) * manyOf c k ∧ (win + 1) * manyOf c k ≤ 100001000 := ⟨Int.mul_nonneg (by omega) hm1, by have := Int.mul_le_mul (show win + 1 ≤ 100001 by omega) hm2 hm1 (by omega); omega⟩
  have HWK := fun W hW => hide (width_any c.s c.le c.la c.wi c.ke c.qu a c.n cap c.F c.W c.K (k : Int) (by omega) (by omega) hn4 W (hts.below (w' := W) hW))
  have HWF := fun W hW => hide (width_any c.s c.le c.la c.wi c.ke c.qu a c.n cap c.F c.W c.K (c.F k) f1 f2 hn4 W (hts.below (w' := W) hW))
  have e1 : widthOf c.wi c.W (k : Int) = c.width (k : Int) := rfl
  have e2 : widthOf c.wi c.W (c.F k) = c.width (c.F k) := rfl
  simp only [e1] at HWK
  simp only [e2] at HWF
  have HM : Hid (c.width (k : Int) / c.width (c.F k) = manyOf c k) := rfl
  have q0 := rlast w (.cells #[.int .i64 c.s, .int .i64 c.le, .int .i64 c.la, .int .i64 c.wi, .int .i64 c.ke, .int .i64 c.qu, .slice a c.n cap] 80)
  have qz := rsize w (.cells #[.int .i64 c.s, .int .i64 c.le, .int .i64 c.la, .int .i64 c.wi, .int .i64 c.ke, .int .i64 c.qu, .slice a c.n cap] 80)
  have y0 : (w.alloc (.cells #[.int .i64 c.s, .int .i64 c.le, .int .i64 c.la, .int .i64 c.wi, .int .i64 c.ke, .int .i64 c.qu, .slice a c.n cap] 80)).cell? ⟨w.heap.size, 0, none⟩ = some (.int .i64 c.s) := by rw [rcell q0]; rfl
  have y1 : (w.alloc (.cells #[.int .i64 c.s, .int .i64 c.le, .int .i64 c.la, .int .i64 c.wi, .int .i64 c.ke, .int .i64 c.qu, .slice a c.n cap] 80)).cell? ⟨w.heap.size, 1, none⟩ = some (.int .i64 c.le) := by rw [rcell q0]; rfl
  have y2 : (w.alloc (.cells #[.int .i64 c.s, .int .i64 c.le, .int .i64 c.la, .int .i64 c.wi, .int .i64 c.ke, .int .i64 c.qu, .slice a c.n cap] 80)).cell? ⟨w.heap.size, 2, none⟩ = some (.int .i64 c.la) := by rw [rcell q0]; rfl
  have y3 : (w.alloc (.cells #[.int .i64 c.s, .int .i64 c.le, .int .i64 c.la, .int .i64 c.wi, .int .i64 c.ke, .int .i64 c.qu, .slice a c.n cap] 80)).cell? ⟨w.heap.size, 3, none⟩ = some (.int .i64 c.wi) := by rw [rcell q0]; rfl
  have y4 : (w.alloc (.cells #[.int .i64 c.s, .int .i64 c.le, .int .i64 c.la, .int .i64 c.wi, .int .i64 c.ke, .int .i64 c.qu, .slice a c.n cap] 80)).cell? ⟨w.heap.size, 4, none⟩ = some (.int .i64 c.ke) := by rw [rcell q0]; rfl
  have y5 : (w.alloc (.cells #[.int .i64 c.s, .int .i64 c.le, .int .i64 c.la, .int .i64 c.wi, .int .i64 c.ke, .int .i64 c.qu, .slice a c.n cap] 80)).cell? ⟨w.heap.size, 5, none⟩ = some (.int .i64 c.qu) := by rw [rcell q0]; rfl
  have y6 : (w.alloc (.cells #[.int .i64 c.s, .int .i64 c.le, .int .i64 c.la, .int .i64 c.wi, .int .i64 c.ke, .int .i64 c.qu, .slice a c.n cap] 80)).cell? ⟨w.heap.size, 6, none⟩ = some (.slice a c.n cap) := by rw [rcell q0]; rfl
  obtain ⟨b, off, rfl, hbz, hcs⟩ := hts.below hb0 (by omega)
  obtain ⟨x0, -, -⟩ := hcs k hk
  have hkn : (k : Int) < c.n := by omega
  have HB0 := hide hb0
  have BZ := hide qz
  clear hcs hts hb0 e1 e2 q0
  generalize manyOf c k = M at *
  generalize c.width (k : Int) = wk at *
  generalize c.width (c.F k) = wf at *
  go_enter Tryz.func190, Tryz.ntmps190
  go_wp2_with fail
  have q1 : w.heap.size < w.heap.size + 1 := by omega
  have q2 : b < w.heap.size + 1 := by omega
  generalize (w.alloc (.cells #[.int .i64 c.s, .int .i64 c.le, .int .i64 c.la, .int .i64 c.wi, .int .i64 c.ke, .int .i64 c.qu, .slice (some ⟨b, off, none⟩) c.n cap] 80)) = X at *
  generalize hN : w.heap.size + 1 = N at *
  have hne : Nonempty (Later N X) := Later.some _ _
  have hlc := fun (u : Later N X) b o h => u.cell b o h
  have hNX : N ≤ X.heap.size := by rw [unhide BZ]; exact Nat.le_refl _
  have HNX := hide hNX
  have HNL : Hid (w.heap.size ≤ N) := by show w.heap.size ≤ N; omega
  clear hNX hN
  refine wp_region_later N (by kernel_rfl) (by kernel_rfl) ?_
  repeat (go_big_quiet_step (first
    | (go_at_call 206; first | (with_reducible exact Calls.later (unhide HNX) (unhide (HWK _ ((unhide HB0).trans (Below.mono (Subtype.property _) (unhide HNL)))))) | (with_reducible exact Calls.later (unhide HNX) (unhide (HWF _ ((unhide HB0).trans (Below.mono (Subtype.property _) (unhide HNL)))))))))
  refine wpQuiet_nil ?_
  rintro ⟨w1, hb1⟩
  clear hlc hne
  dsimp only
  go_wp2_with fail
  go_ret3
  have hm := unhide HM
  rw [hm]
  have r1 : wrap64 (win * M) = win * M := by unfold wrap64; omega
  have r2 : wrap64 ((win + 1) * M) = (win + 1) * M := by unfold wrap64; omega
  rw [r1, r2]
  exact ⟨rfl, (unhide HB0).trans (hb1.mono (unhide HNL))⟩
end Go.Proofs.YtpbimdkclnekeaaGreat
