import Derived.Test.YtpbimdkclnekeaaGreatKTel0
import Derived.Test.YtpbimdkclnekeaaGreatKZet5

namespace Go.Proofs.YtpbimdkclnekeaaGreat
open Value (int)
open IntKind (i64)
open Go.RowKit Go.Maps Go.Shelf
open Go.ChangeMaps (setBlock)
set_option linter.unusedVariables false
set_option maxHeartbeats 1000000 in
theorem isSer_any (n : Int) (w : World) (h : 0 <= n /\ n < 4) : Calls Tryz.prog 113 #[int i64 n] w fun e w' => e = .returned (.bool true) /\ w' = w := by
 obtain ⟨h1, h2⟩ := h
 go_enter Tryz.func113, Tryz.ntmps113
 go_wp2_with fail
 go_ret
 exact ⟨rfl, rfl⟩
set_option maxRecDepth 20000 in
set_option maxHeartbeats 4000000 in
theorem ming_full {w : World} {i : Ids} {c : Cf} {ep : Int} {m : MS} (h : zat w i c ep m) (hc : c.ok) (ser tm val : Int) (hser : 0 <= ser /\ ser < 4) (htm : 0 <= tm /\ tm <= m.now) (hla : m.now - c.la <= tm) (hnow : m.now <= 100000) (hval : -2147483648 <= val /\ val <= 2147483647) (hu : 0 <= zam m.L /\ zam m.L <= 1000) (hst : stOk m.L) (hng : ∀ k : Nat, k < c.n -> zbq m.Gl (zde c ser tm k) = none) (hge : c.qu < zam m.L + (1 + 2 * missL c m.L ⟨ser, tm, val⟩ c.n)) :
  Calls Tryz.prog 59 #[.pointer (some ⟨i.x, 0, none⟩), int i64 ser, int i64 tm, .int .i32 val] w fun e w' => e = .returned (int i64 4) /\ Below w.heap.size w w' := by
 obtain ⟨a, cap, htv, hts⟩ := h.ts
 obtain ⟨c0, c1, c2, c3, c4, c5, c6, c7, c8, c9, -⟩ := h.cells
 rw [htv] at c6
 have hxl := h.lt
 obtain ⟨hq1, hq2⟩ := hc.qu
 obtain ⟨hl1, hl2⟩ := hc.la
 have hmb := zet c m.L ⟨ser, tm, val⟩ c.n
 have hn4 := hc.n4
 have HU := fun W hW => zac (pused_any ((h.later (w' := W) hW).set) (by unfold zdg; omega))
 have HCO := fun W hW => zac (pcost_any ((h.later (w' := W) hW).set) hc ser tm val hser ⟨htm.1, by omega⟩ hst hng)
 have HQ := fun W => zac (lquota_any c a cap W)
 have HLG := fun W => zac (llag_any c a cap W)
 have HIS := fun W => zac (isSer_any ser W hser)
 obtain ⟨hu1, hu2⟩ := hu
 have h1' : decide (tm < 0) = false := by simp; omega
 have h2' : decide (m.now < tm) = false := by simp; omega
 have h3' : decide (tm < m.now - c.la) = false := by simp; omega
 have H := zac h
 generalize hUe : zam m.L = U at *
 generalize hMe : missL c m.L ⟨ser, tm, val⟩ c.n = M at *
 obtain ⟨ht1, ht2⟩ := htm
 have htm : 0 <= tm /\ tm <= m.now := ⟨ht1, ht2⟩
 clear h hts hUe hMe
 go_enter Tryz.func59, Tryz.ntmps59
 go_wp2_with (first | (go_at_call 113; refine (ud (HIS _)).mono ?_; rintro e W9 ⟨rfl, h9⟩; have h9' := h9.symm; subst h9'))
 have hnew : Nonempty (zbg w.heap.size w) := zbg.some _ _
 have hlcw := fun (u : zbg w.heap.size w) b o h => u.cell b o h
 refine zak w.heap.size (by kernel_rfl) (by kernel_rfl) ?_
 repeat (go_big_quiet_step (first
  | (go_at_call 114; exact Calls.later (Nat.le_refl _) (ud (HLG _)))))
 refine wpQuiet_nil ?_
 rintro ⟨w1, hbw1⟩
 dsimp only
 clear hlcw hnew
 go_wp2_with fail
 have d0 := (hbw1.cell (p := ⟨i.x, 0, none⟩) hxl).trans c0
 have d1 := (hbw1.cell (p := ⟨i.x, 1, none⟩) hxl).trans c1
 have d2 := (hbw1.cell (p := ⟨i.x, 2, none⟩) hxl).trans c2
 have d3 := (hbw1.cell (p := ⟨i.x, 3, none⟩) hxl).trans c3
 have d4 := (hbw1.cell (p := ⟨i.x, 4, none⟩) hxl).trans c4
 have d5 := (hbw1.cell (p := ⟨i.x, 5, none⟩) hxl).trans c5
 have d6 := (hbw1.cell (p := ⟨i.x, 6, none⟩) hxl).trans c6
 have d7 := (hbw1.cell (p := ⟨i.x, 7, none⟩) hxl).trans c7
 have d8 := (hbw1.cell (p := ⟨i.x, 8, none⟩) hxl).trans c8
 have d9 := (hbw1.cell (p := ⟨i.x, 9, none⟩) hxl).trans c9
 have hxl1 := Nat.lt_of_lt_of_le hxl hbw1.size
 have HW1 := zac hbw1
 clear c0 c1 c2 c3 c4 c5 c6 c7 c8 c9 hbw1
 have hnew1 : Nonempty (zbg w1.heap.size w1) := zbg.some _ _
 have hlcw1 := fun (u : zbg w1.heap.size w1) b o h => u.cell b o h
 refine zak w1.heap.size (by kernel_rfl) (by kernel_rfl) ?_
 repeat (go_big_quiet_step (first
  | (go_at_call 33; exact Calls.later (Nat.le_refl _) (ud (HU _ ((ud HW1).trans (Below.mono (Subtype.property _) (ud HW1).size)))))
  | (go_at_call 115; exact Calls.later (Nat.le_refl _) (ud (HCO _ ((ud HW1).trans (Below.mono (Subtype.property _) (ud HW1).size)))))
  | (go_at_call 75; exact Calls.later (Nat.le_refl _) (ud (HQ _)))))
 refine wpQuiet_nil ?_
 rintro ⟨w2, hbw2⟩
 dsimp only
 clear hlcw1 hnew1
 have HW2 := zac ((ud HW1).trans (hbw2.mono (ud HW1).size))
 clear hbw2 d0 d1 d2 d3 d4 d5 d6 d7 d8 d9
 go_wp2_with fail
 go_ret
 exact ⟨rfl, ud HW2⟩
set_option maxRecDepth 20000 in
set_option maxHeartbeats 4000000 in
theorem ming_ok {w : World} {i : Ids} {c : Cf} {ep : Int} {m : MS} (h : zat w i c ep m) (hc : c.ok) (ser tm val : Int) (hser : 0 <= ser /\ ser < 4) (htm : 0 <= tm /\ tm <= m.now) (hla : m.now - c.la <= tm) (hnow : m.now <= 100000) (hval : -2147483648 <= val /\ val <= 2147483647) (hu : 0 <= zam m.L /\ zam m.L <= 1000) (hst : stOk m.L) (hng : ∀ k : Nat, k < c.n -> zbq m.Gl (zde c ser tm k) = none) (hge : zam m.L + (1 + 2 * missL c m.L ⟨ser, tm, val⟩ c.n) <= c.qu) (hroom : m.L.length <= 1000000) (hsm : ∀ p ∈ m.L, p.1.t = -1 -> p.2.cl.small) :
  Calls Tryz.prog 59 #[.pointer (some ⟨i.x, 0, none⟩), int i64 ser, int i64 tm, .int .i32 val] w fun e w' => e = .returned (int i64 0) /\ zat w' i c ep { m with L := addL c m.L ⟨ser, tm, val⟩ } /\ zaj (fun k => k = i.lb) w w' := by
 obtain ⟨a, cap, htv, hts⟩ := h.ts
 obtain ⟨c0, c1, c2, c3, c4, c5, c6, c7, c8, c9, -⟩ := h.cells
 rw [htv] at c6
 have hxl := h.lt
 obtain ⟨hq1, hq2⟩ := hc.qu
 obtain ⟨hl1, hl2⟩ := hc.la
 have hmb := zet c m.L ⟨ser, tm, val⟩ c.n
 have hn4 := hc.n4
 have HU := fun W hW => zac (pused_any ((h.later (w' := W) hW).set) (by unfold zdg; omega))
 have HCO := fun W hW => zac (pcost_any ((h.later (w' := W) hW).set) hc ser tm val hser ⟨htm.1, by omega⟩ hst hng)
 have HQ := fun W => zac (lquota_any c a cap W)
 have HLG := fun W => zac (llag_any c a cap W)
 have HIS := fun W => zac (isSer_any ser W hser)
 obtain ⟨hu1, hu2⟩ := hu
 have hgt : decide (c.qu < zam m.L + (1 + 2 * missL c m.L ⟨ser, tm, val⟩ c.n)) = false := by simp; omega
 have h1' : decide (tm < 0) = false := by simp; omega
 have h2' : decide (m.now < tm) = false := by simp; omega
 have h3' : decide (tm < m.now - c.la) = false := by simp; omega
 have H := zac h
 generalize hUe : zam m.L = U at *
 generalize hMe : missL c m.L ⟨ser, tm, val⟩ c.n = M at *
 obtain ⟨ht1, ht2⟩ := htm
 have htm : 0 <= tm /\ tm <= m.now := ⟨ht1, ht2⟩
 clear h hts hUe hMe
 go_enter Tryz.func59, Tryz.ntmps59
 go_wp2_with (first | (go_at_call 113; refine (ud (HIS _)).mono ?_; rintro e W9 ⟨rfl, h9⟩; have h9' := h9.symm; subst h9'))
 have hnew : Nonempty (zbg w.heap.size w) := zbg.some _ _
 have hlcw := fun (u : zbg w.heap.size w) b o h => u.cell b o h
 refine zak w.heap.size (by kernel_rfl) (by kernel_rfl) ?_
 repeat (go_big_quiet_step (first
  | (go_at_call 114; exact Calls.later (Nat.le_refl _) (ud (HLG _)))))
 refine wpQuiet_nil ?_
 rintro ⟨w1, hbw1⟩
 dsimp only
 clear hlcw hnew
 go_wp2_with fail
 have d0 := (hbw1.cell (p := ⟨i.x, 0, none⟩) hxl).trans c0
 have d1 := (hbw1.cell (p := ⟨i.x, 1, none⟩) hxl).trans c1
 have d2 := (hbw1.cell (p := ⟨i.x, 2, none⟩) hxl).trans c2
 have d3 := (hbw1.cell (p := ⟨i.x, 3, none⟩) hxl).trans c3
 have d4 := (hbw1.cell (p := ⟨i.x, 4, none⟩) hxl).trans c4
 have d5 := (hbw1.cell (p := ⟨i.x, 5, none⟩) hxl).trans c5
 have d6 := (hbw1.cell (p := ⟨i.x, 6, none⟩) hxl).trans c6
 have d7 := (hbw1.cell (p := ⟨i.x, 7, none⟩) hxl).trans c7
 have d8 := (hbw1.cell (p := ⟨i.x, 8, none⟩) hxl).trans c8
 have d9 := (hbw1.cell (p := ⟨i.x, 9, none⟩) hxl).trans c9
 have hxl1 := Nat.lt_of_lt_of_le hxl hbw1.size
 have HW1 := zac hbw1
 clear c0 c1 c2 c3 c4 c5 c6 c7 c8 c9 hbw1
 have hnew1 : Nonempty (zbg w1.heap.size w1) := zbg.some _ _
 have hlcw1 := fun (u : zbg w1.heap.size w1) b o h => u.cell b o h
 refine zak w1.heap.size (by kernel_rfl) (by kernel_rfl) ?_
 repeat (go_big_quiet_step (first
  | (go_at_call 33; exact Calls.later (Nat.le_refl _) (ud (HU _ ((ud HW1).trans (Below.mono (Subtype.property _) (ud HW1).size)))))
  | (go_at_call 115; exact Calls.later (Nat.le_refl _) (ud (HCO _ ((ud HW1).trans (Below.mono (Subtype.property _) (ud HW1).size)))))
  | (go_at_call 75; exact Calls.later (Nat.le_refl _) (ud (HQ _)))))
 refine wpQuiet_nil ?_
 rintro ⟨w2, hbw2⟩
 dsimp only
 clear hlcw1 hnew1
 have HW2 := zac ((ud HW1).trans (hbw2.mono (ud HW1).size))
 clear hbw2 d0 d1 d2 d3 d4 d5 d6 d7 d8 d9
 have hM2 := (ud H).later (ud HW2)
 obtain ⟨-, -, -, -, -, -, -, -, -, e9, -⟩ := hM2.cells
 have hx2 := hM2.lt
 have HAD := zac (padd_any hM2.set hc ser tm val hser ⟨htm.1, by omega⟩ hval hst hroom hsm hng)
 have HM2 := zac hM2
 clear hM2
 go_wp2_with (first | (go_at_call 116; refine (ud HAD).mono ?_; rintro e V ⟨rfl, hS, hK⟩; have HS := zac hS; have HK := zac hK; clear hS hK))
 go_ret
 have hk : zaj (fun k => k = i.lb) w2 V := ud HK
 exact ⟨rfl, (ud HM2).putSet (ud HS) (hk.mono (fun k _ e => .inr (.inr (.inl e)))), (zaj.of_below (f := fun k => k = i.lb) (ud HW2)).trans hk (fun _ _ e => e)⟩
end Go.Proofs.YtpbimdkclnekeaaGreat
