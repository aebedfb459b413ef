import Derived.Test.YtpbimdkclnekeaaGreatKAwk1

namespace Go.Proofs.YtpbimdkclnekeaaGreat
open Value (int)
open IntKind (i64)
open Go.RowKit Go.Maps Go.Shelf
set_option linter.unusedVariables false
theorem aw_ts {W : World} {ta : Nat} (h : W.heap[ta]? = some (.cells #[int i64 (-1), int i64 2, int i64 100] 66 (0, 0))) : TS W (some ⟨ta, 0, none⟩) awC.n awC.F awC.W awC.K := fun _ => by
 refine ⟨ta, 0, rfl, zaa h, fun i hi => ?_⟩
 obtain rfl : i = 0 := by have : awC.n = 1 := rfl; omega
 exact ⟨by rw [zab h]; rfl, by rw [zab h]; rfl, by rw [zab h]; rfl⟩
theorem aw_kb {w M M1 : World} {i : Ids} (hb : Below w.heap.size w M) (hk : zaj (zbx i) M M1) (hlo : ∀ k, zbx i k -> w.heap.size <= k) : Below w.heap.size w M1 := hb.trans (hk.below hb.size hlo)
theorem aw_open {D : World} {p B ta : Nat} (hd : zba 119 185 B D p newS (.slice none 0 0)) (hB : B <= D.heap.size) (ht : D.heap[ta]? = some (.cells #[int i64 (-1), int i64 2, int i64 100] 66 (0, 0))) :
  Hid (Calls Tryz.prog 26 #[.agg #[int i64 1, int i64 9, int i64 0, int i64 2, int i64 4, int i64 9, .slice (some ⟨ta, 0, none⟩) 1 1], .pointer (some ⟨p, 0, none⟩)] D fun e M => ∃ i : Ids, e = .returned (.tuple #[.pointer (some ⟨i.x, 0, none⟩), int i64 0]) /\ zat M i awC 1 ⟨0, [], [], 0, [], []⟩ /\ zaj (fun k => k = p) D M /\ ∀ k, zbx i k -> D.heap.size <= k) := by
 have hpt : p ≠ ta := fun e => by
  have h1 := hd.head
  rw [e, ht] at h1
  cases h1
 refine zac ((popen_any awC awC_ok awC_right (some ⟨ta, 0, none⟩) 1 B p (.slice none 0 0) D hB hd (fun w' hk => aw_ts (hk.heap ht (fun e => ?_)))).mono ?_)
 ·rcases e with e | e
  ·exact hpt e.symm
  ·cases e
 ·rintro e M ⟨i, fs', h1, h2, _, h4, _, h6⟩
  exact ⟨i, h1, h2, h4.mono (fun k _ e => by rcases e with e | e; exact e; cases e), fun k hk => (h6 k hk).1⟩
theorem aw_kc {X D M : World} {b : Nat} (hk : zaj (fun k => k = X.heap.size) D M) (hz : D.heap.size = X.heap.size + 1) (hb : b < X.heap.size) (j : Nat) : M.cell? ⟨b, j, none⟩ = D.cell? ⟨b, j, none⟩ := zbc hk (show ¬ b = X.heap.size by omega) (by omega)
set_option maxRecDepth 20000 in
set_option maxHeartbeats 4000000 in
theorem awake_any (w : World) : Calls Tryz.prog 23 #[] w fun e w' => e = .returned (.bool true) /\ Below w.heap.size w w' := by
 obtain ⟨y0, y1, hbw, yz⟩ := box2 w (.cells #[int i64 (-1), int i64 2, int i64 100] 66) (.cells #[int i64 1, int i64 9, int i64 0, int i64 2, int i64 4, int i64 9, .slice (some ⟨w.heap.size, 0, none⟩) 1 1] 27)
 have c0 : ((w.alloc (.cells #[int i64 (-1), int i64 2, int i64 100] 66)).alloc (.cells #[int i64 1, int i64 9, int i64 0, int i64 2, int i64 4, int i64 9, .slice (some ⟨w.heap.size, 0, none⟩) 1 1] 27)).cell? ⟨w.heap.size + 1, 0, none⟩ = some (int i64 1) := by rw [zab y1]; rfl
 have c1 : ((w.alloc (.cells #[int i64 (-1), int i64 2, int i64 100] 66)).alloc (.cells #[int i64 1, int i64 9, int i64 0, int i64 2, int i64 4, int i64 9, .slice (some ⟨w.heap.size, 0, none⟩) 1 1] 27)).cell? ⟨w.heap.size + 1, 1, none⟩ = some (int i64 9) := by rw [zab y1]; rfl
 have c2 : ((w.alloc (.cells #[int i64 (-1), int i64 2, int i64 100] 66)).alloc (.cells #[int i64 1, int i64 9, int i64 0, int i64 2, int i64 4, int i64 9, .slice (some ⟨w.heap.size, 0, none⟩) 1 1] 27)).cell? ⟨w.heap.size + 1, 2, none⟩ = some (int i64 0) := by rw [zab y1]; rfl
 have c3 : ((w.alloc (.cells #[int i64 (-1), int i64 2, int i64 100] 66)).alloc (.cells #[int i64 1, int i64 9, int i64 0, int i64 2, int i64 4, int i64 9, .slice (some ⟨w.heap.size, 0, none⟩) 1 1] 27)).cell? ⟨w.heap.size + 1, 3, none⟩ = some (int i64 2) := by rw [zab y1]; rfl
 have c4 : ((w.alloc (.cells #[int i64 (-1), int i64 2, int i64 100] 66)).alloc (.cells #[int i64 1, int i64 9, int i64 0, int i64 2, int i64 4, int i64 9, .slice (some ⟨w.heap.size, 0, none⟩) 1 1] 27)).cell? ⟨w.heap.size + 1, 4, none⟩ = some (int i64 4) := by rw [zab y1]; rfl
 have c5 : ((w.alloc (.cells #[int i64 (-1), int i64 2, int i64 100] 66)).alloc (.cells #[int i64 1, int i64 9, int i64 0, int i64 2, int i64 4, int i64 9, .slice (some ⟨w.heap.size, 0, none⟩) 1 1] 27)).cell? ⟨w.heap.size + 1, 5, none⟩ = some (int i64 9) := by rw [zab y1]; rfl
 have c6 : ((w.alloc (.cells #[int i64 (-1), int i64 2, int i64 100] 66)).alloc (.cells #[int i64 1, int i64 9, int i64 0, int i64 2, int i64 4, int i64 9, .slice (some ⟨w.heap.size, 0, none⟩) 1 1] 27)).cell? ⟨w.heap.size + 1, 6, none⟩ = some (.slice (some ⟨w.heap.size, 0, none⟩) 1 1) := by rw [zab y1]; rfl
 have Y0 := zac y0
 have HBW := zac hbw
 have YZ := zac yz
 have hl1 := zaa y1
 have hl0 := zaa y0
 clear y0 y1 hbw yz
 go_enter Tryz.func23, Tryz.ntmps23
 go_wp2_with fail
 generalize ((w.alloc (.cells #[int i64 (-1), int i64 2, int i64 100] 66)).alloc (.cells #[int i64 1, int i64 9, int i64 0, int i64 2, int i64 4, int i64 9, .slice (some ⟨w.heap.size, 0, none⟩) 1 1] 27)) = X at *
 have hwx : w.heap.size + 1 < X.heap.size := hl1
 have HN := fun W (hB : X.heap.size <= W.heap.size) => zac (new_any X.heap.size W hB)
 have HO := fun D (h1 : zba 119 185 X.heap.size D X.heap.size newS (.slice none 0 0)) (h2 : Below X.heap.size X D) => aw_open (ta := w.heap.size) h1 h2.size ((h2.block _ hl0).trans (ud Y0))
 go_region_held3 (fun w' => w'.cell? ⟨w.heap.size + 1, 0, none⟩ = some (int i64 1) /\ w'.cell? ⟨w.heap.size + 1, 1, none⟩ = some (int i64 9) /\ w'.cell? ⟨w.heap.size + 1, 2, none⟩ = some (int i64 0) /\ w'.cell? ⟨w.heap.size + 1, 3, none⟩ = some (int i64 2) /\ w'.cell? ⟨w.heap.size + 1, 4, none⟩ = some (int i64 4) /\ w'.cell? ⟨w.heap.size + 1, 5, none⟩ = some (int i64 9) /\ w'.cell? ⟨w.heap.size + 1, 6, none⟩ = some (.slice (some ⟨w.heap.size, 0, none⟩) 1 1)) (go_keep) (first
  | (go_at_call 25; (with_reducible refine (ud (HN _ ?hb)).mono ?_); (case hb => exact Nat.le_refl _); rintro e D ⟨rfl, hD, hb0, hz0⟩; have hbD : Below X.heap.size X D := ⟨hb0.os, hb0.tape, hb0.output, hb0.size, hb0.block⟩; have hzD : D.heap.size = X.heap.size + 1 := hz0; have d0 : D.cell? ⟨w.heap.size + 1, 0, none⟩ = some (int i64 1) := (hbD.cell (p := ⟨w.heap.size + 1, 0, none⟩) hwx).trans c0; have d1 : D.cell? ⟨w.heap.size + 1, 1, none⟩ = some (int i64 9) := (hbD.cell (p := ⟨w.heap.size + 1, 1, none⟩) hwx).trans c1; have d2 : D.cell? ⟨w.heap.size + 1, 2, none⟩ = some (int i64 0) := (hbD.cell (p := ⟨w.heap.size + 1, 2, none⟩) hwx).trans c2; have d3 : D.cell? ⟨w.heap.size + 1, 3, none⟩ = some (int i64 2) := (hbD.cell (p := ⟨w.heap.size + 1, 3, none⟩) hwx).trans c3; have d4 : D.cell? ⟨w.heap.size + 1, 4, none⟩ = some (int i64 4) := (hbD.cell (p := ⟨w.heap.size + 1, 4, none⟩) hwx).trans c4; have d5 : D.cell? ⟨w.heap.size + 1, 5, none⟩ = some (int i64 9) := (hbD.cell (p := ⟨w.heap.size + 1, 5, none⟩) hwx).trans c5; have d6 : D.cell? ⟨w.heap.size + 1, 6, none⟩ = some (.slice (some ⟨w.heap.size, 0, none⟩) 1 1) := (hbD.cell (p := ⟨w.heap.size + 1, 6, none⟩) hwx).trans c6; have HD : Hid (zba 119 185 X.heap.size D X.heap.size newS (.slice none 0 0)) := hD; have HBD := zac hbD; have HZD := zac hzD; clear hD hb0 hbD hz0 hzD HN)
  | (go_at_call 26; (first | (with_reducible refine (ud (HO _ (ud HD) (ud HBD))).mono ?_) | refine (ud (HO _ (ud HD) (ud HBD))).mono ?_); rintro e M ⟨i, rfl, hM, hk, hlo⟩; have m0 : M.cell? ⟨w.heap.size + 1, 0, none⟩ = some (int i64 1) := (aw_kc hk (ud HZD) hwx 0).trans d0; have m1 : M.cell? ⟨w.heap.size + 1, 1, none⟩ = some (int i64 9) := (aw_kc hk (ud HZD) hwx 1).trans d1; have m2 : M.cell? ⟨w.heap.size + 1, 2, none⟩ = some (int i64 0) := (aw_kc hk (ud HZD) hwx 2).trans d2; have m3 : M.cell? ⟨w.heap.size + 1, 3, none⟩ = some (int i64 2) := (aw_kc hk (ud HZD) hwx 3).trans d3; have m4 : M.cell? ⟨w.heap.size + 1, 4, none⟩ = some (int i64 4) := (aw_kc hk (ud HZD) hwx 4).trans d4; have m5 : M.cell? ⟨w.heap.size + 1, 5, none⟩ = some (int i64 9) := (aw_kc hk (ud HZD) hwx 5).trans d5; have m6 : M.cell? ⟨w.heap.size + 1, 6, none⟩ = some (.slice (some ⟨w.heap.size, 0, none⟩) 1 1) := (aw_kc hk (ud HZD) hwx 6).trans d6; have HM := zac hM; have HK := zac hk; have HLO := zac hlo; clear hM hk hlo))
 have hbD2 := ud HBD
 have hlo : ∀ k, zbx i k -> w.heap.size <= k := fun k hk => Nat.le_trans (ud HBW).size (Nat.le_trans hbD2.size (ud HLO k hk))
 have hbD3 := (ud HBW).trans (hbD2.mono (ud HBW).size)
 have HBM := zac (hbD3.trans ((ud HK).below hbD3.size (fun k e => by have := (ud HBW).size; have e' : k = X.heap.size := e; omega)))
 have HLW := zac hlo
 clear hbD2 hlo hbD3 c0 d0 m0 c1 d1 m1 c2 d2 m2 c3 d3 m3 c4 d4 m4 c5 d5 m5 c6 d6 m6
 go_wp2_with (first
  | (go_at_call 59; refine (aw_ing (ud HM)).mono ?_; rintro e M1 ⟨rfl, hm1, hk1⟩; have HM1 := zac hm1; have HB1 := zac (aw_kb (ud HBM) hk1 (ud HLW)); clear hm1 hk1)
  | (go_at_call 36; refine (aw_tick (ud HM1)).mono ?_; rintro e M2 ⟨rfl, hm1, hk1⟩; have HM2 := zac hm1; have HB2 := zac (aw_kb (ud HB1) hk1 (ud HLW)); clear hm1 hk1)
  | (go_at_call 16; refine (aw_pick1 (ud HM2)).mono ?_; rintro e M3 ⟨rfl, hm1, hk1⟩; have hb3 := aw_kb (ud HB2) hk1 (ud HLW); have hA := (Below.refl M3.heap.size M3).alloc (Nat.le_refl _) (.cells #[int i64 1, int i64 0, int i64 1, int i64 0, int i64 6, int i64 0, int i64 0, int i64 1, int i64 1, int i64 0, int i64 15] 51); have HM3 := zac (hm1.later hA); have HB3 := zac (hb3.alloc hb3.size (.cells #[int i64 1, int i64 0, int i64 1, int i64 0, int i64 6, int i64 0, int i64 0, int i64 1, int i64 1, int i64 0, int i64 15] 51)); have HI3 := zac (zag M3 (.cells #[int i64 1, int i64 0, int i64 1, int i64 0, int i64 6, int i64 0, int i64 0, int i64 1, int i64 1, int i64 0, int i64 15] 51)); have HN3 : Hid (¬ zbx i M3.heap.size) := (fun e => absurd (hm1.foot_lt _ e) (by omega)); clear hm1 hk1 hb3 hA HM2)
  | (go_at_call 18; refine (aw_com1 (ud HM3)).mono ?_; rintro e M4 ⟨rfl, hm1, hk1⟩; have HM4 := zac hm1; have HB4 := zac (aw_kb (ud HB3) hk1 (ud HLW)); have HI4 := zac (hk1.heap (ud HI3) (ud HN3)); clear hm1 hk1 HM3)
  | (go_at_call 16; refine (aw_pick2 (ud HM4)).mono ?_; rintro e M5 ⟨rfl, hm1, hk1⟩; have hb3 := aw_kb (ud HB4) hk1 (ud HLW); have hA := (Below.refl M5.heap.size M5).alloc (Nat.le_refl _) (.cells #[int i64 2, int i64 (-1), int i64 1, int i64 0, int i64 6, int i64 0, int i64 0, int i64 1, int i64 2, int i64 0, int i64 15] 51); have HM5 := zac (hm1.later hA); have HB5 := zac (hb3.alloc hb3.size (.cells #[int i64 2, int i64 (-1), int i64 1, int i64 0, int i64 6, int i64 0, int i64 0, int i64 1, int i64 2, int i64 0, int i64 15] 51)); have HI5 := zac ((Below.heap_alloc _ (.cells #[int i64 2, int i64 (-1), int i64 1, int i64 0, int i64 6, int i64 0, int i64 0, int i64 1, int i64 2, int i64 0, int i64 15] 51) _ (zaa (hk1.heap (ud HI4) (ud HN3)))).trans (hk1.heap (ud HI4) (ud HN3))); have HJ5 := zac (zag M5 (.cells #[int i64 2, int i64 (-1), int i64 1, int i64 0, int i64 6, int i64 0, int i64 0, int i64 1, int i64 2, int i64 0, int i64 15] 51)); have HN5 : Hid (¬ zbx i M5.heap.size) := (fun e => absurd (hm1.foot_lt _ e) (by omega)); clear hm1 hk1 hb3 hA HM4)
  | (go_at_call 18; refine (aw_com2 (ud HM5)).mono ?_; rintro e M6 ⟨rfl, ⟨TL', hm1⟩, hk1⟩; have HM6 := zac hm1; have HB6 := zac (aw_kb (ud HB5) hk1 (ud HLW)); have HI6 := zac (hk1.heap (ud HI5) (ud HN3)); have HJ6 := zac (hk1.heap (ud HJ5) (ud HN5)); clear hm1 hk1 HM5)
  | (go_at_call 60; refine (aw_q1 (ud HM6)).mono ?_; rintro e M7 ⟨rfl, hb7⟩; have hA := (Below.refl M7.heap.size M7).alloc (Nat.le_refl _) (.cells #[int i64 1, int i64 7, .int .i32 7, .int .i32 7] 114); have hb8 := hb7.alloc hb7.size (.cells #[int i64 1, int i64 7, .int .i32 7, .int .i32 7] 114); have HM7 := zac ((ud HM6).later hb8); have HB7 := zac ((ud HB6).trans (hb8.mono (ud HB6).size)); have HI7 := zac ((hb8.block _ (zaa (ud HI6))).trans (ud HI6)); have HJ7 := zac ((hb8.block _ (zaa (ud HJ6))).trans (ud HJ6)); have HD7 := zac (zag M7 (.cells #[int i64 1, int i64 7, .int .i32 7, .int .i32 7] 114)); clear hb7 hb8 hA HM6)
  | (go_at_call 60; refine (aw_q2 (ud HM7)).mono ?_; rintro e M8 ⟨rfl, hb8⟩; have HB8 := zac ((ud HB7).trans (hb8.mono (ud HB7).size)); have hi8 := (hb8.block _ (zaa (ud HI7))).trans (ud HI7); have hj8 := (hb8.block _ (zaa (ud HJ7))).trans (ud HJ7); have hd8 := (hb8.block _ (zaa (ud HD7))).trans (ud HD7); have i0 : M8.cell? ⟨M3.heap.size, 0, none⟩ = some (int i64 1) := (by rw [zab hi8]; rfl); have j0 : M8.cell? ⟨M5.heap.size, 0, none⟩ = some (int i64 2) := (by rw [zab hj8]; rfl); have d0 : M8.cell? ⟨M7.heap.size, 0, none⟩ = some (int i64 1) := (by rw [zab hd8]; rfl); have d1 : M8.cell? ⟨M7.heap.size, 1, none⟩ = some (int i64 7) := (by rw [zab hd8]; rfl); have li := zaa hi8; have lj := zaa hj8; have ld := zaa hd8; clear hb8 hi8 hj8 hd8 HM7))
 go_ret
 exact ⟨rfl, (ud HB8).alloc (ud HB8).size _⟩
end Go.Proofs.YtpbimdkclnekeaaGreat
