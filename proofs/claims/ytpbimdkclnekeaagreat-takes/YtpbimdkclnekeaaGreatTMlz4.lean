import Derived.Test.YtpbimdkclnekeaaGreatTMlz0
import Derived.Test.YtpbimdkclnekeaaGreatTZet5
import Derived.Test.YtpbimdkclnekeaaGreatTMlz6
import Derived.Test.YtpbimdkclnekeaaGreatTPck1
import Derived.Test.YtpbimdkclnekeaaGreatTMlz5

namespace Go.Proofs.YtpbimdkclnekeaaGreat
open Value (int)
open IntKind (i64)
open Go.RowKit Go.Maps Go.Shelf
open Go.ChangeMaps (setBlock)
set_option linter.unusedVariables false
set_option maxHeartbeats 1000000 in
theorem isSer_any (n : Int) (w : World) (h : 0 <= n /\ n < 4) : Calls Tryz.prog 113 #[int i64 n] w fun e w' => e = .returned (.bool true) /\ w' = w := by
 obtain ⟨h1, h2⟩ := h
 go_enter Tryz.func113, Tryz.ntmps113
 go_wp2_with fail
 go_ret
 exact ⟨rfl, rfl⟩
set_option maxRecDepth 20000 in
set_option maxHeartbeats 4000000 in
theorem ming_full {w : World} {i : Ids} {c : Cf} {ep : Int} {m : MS} (h : zbb w i c ep m) (hc : c.ok) (ser tm val : Int) (hser : 0 <= ser /\ ser < 4) (htm : 0 <= tm /\ tm <= m.now) (hla : m.now - c.la <= tm) (hnow : m.now <= 100000) (hval : -2147483648 <= val /\ val <= 2147483647) (hu : 0 <= zby m.L /\ zby m.L <= 1000) (hst : stOk m.L) (hng : ∀ k : Nat, k < c.n -> zbm m.Gl (zdm c ser tm k) = none) (hge : c.qu < zby m.L + (1 + 2 * zeq c m.L ⟨ser, tm, val⟩ c.n)) :
  Calls Tryz.prog 59 #[.pointer (some ⟨i.x, 0, none⟩), int i64 ser, int i64 tm, .int .i32 val] w fun e w' => e = .returned (int i64 4) /\ Below w.heap.size w w' := by
 obtain ⟨a, cap, htv, hts⟩ := h.ts
 obtain ⟨c0, c1, c2, c3, c4, c5, c6, c7, c8, c9, -⟩ := h.cells
 rw [htv] at c6
 have hxl := h.lt
 obtain ⟨hq1, hq2⟩ := hc.qu
 obtain ⟨hl1, hl2⟩ := hc.la
 have hmb := missL_bounds c m.L ⟨ser, tm, val⟩ c.n
 have hn4 := hc.n4
 have HU := fun W hW => zab (pused_any ((h.later (w' := W) hW).set) (by unfold i64B; omega))
 have HCO := fun W hW => zab (pcost_any ((h.later (w' := W) hW).set) hc ser tm val hser ⟨htm.1, by omega⟩ hst hng)
 have HQ := fun W => zab (lquota_any c a cap W)
 have HLG := fun W => zab (llag_any c a cap W)
 have HIS := fun W => zab (isSer_any ser W hser)
 obtain ⟨hu1, hu2⟩ := hu
 have h1' : decide (tm < 0) = false := by simp; omega
 have h2' : decide (m.now < tm) = false := by simp; omega
 have h3' : decide (tm < m.now - c.la) = false := by simp; omega
 have H := zab h
 generalize hUe : zby m.L = U at *
 generalize hMe : zeq c m.L ⟨ser, tm, val⟩ c.n = M at *
 obtain ⟨ht1, ht2⟩ := htm
 have htm : 0 <= tm /\ tm <= m.now := ⟨ht1, ht2⟩
 clear h hts hUe hMe
 go_enter Tryz.func59, Tryz.ntmps59
 go_wp2_with (first | (go_at_call 113; refine (ud (HIS _)).mono ?_; rintro e W9 ⟨rfl, h9⟩; have h9' := h9.symm; subst h9'))
 have hnew : Nonempty (zaf w.heap.size w) := zaf.some _ _
 have hlcw := fun (u : zaf w.heap.size w) b o h => u.cell b o h
 refine zad w.heap.size (by kernel_rfl) (by kernel_rfl) ?_
 repeat (go_big_quiet_step (first
  | (go_at_call 114; exact Calls.later (Nat.le_refl _) (ud (HLG _)))))
 refine wpQuiet_nil ?_
 rintro ⟨w1, hbw1⟩
 dsimp only
 clear hlcw hnew
 go_wp2_with fail
 have d0 := (hbw1.cell (p := ⟨i.x, 0, none⟩) hxl).trans c0
 have d1 := (hbw1.cell (p := ⟨i.x, 1, none⟩) hxl).trans c1
 have d2 := (hbw1.cell (p := ⟨i.x, 2, none⟩) hxl).trans c2
 have d3 := (hbw1.cell (p := ⟨i.x, 3, none⟩) hxl).trans c3
 have d4 := (hbw1.cell (p := ⟨i.x, 4, none⟩) hxl).trans c4
 have d5 := (hbw1.cell (p := ⟨i.x, 5, none⟩) hxl).trans c5
 have d6 := (hbw1.cell (p := ⟨i.x, 6, none⟩) hxl).trans c6
 have d7 := (hbw1.cell (p := ⟨i.x, 7, none⟩) hxl).trans c7
 have d8 := (hbw1.cell (p := ⟨i.x, 8, none⟩) hxl).trans c8
 have d9 := (hbw1.cell (p := ⟨i.x, 9, none⟩) hxl).trans c9
 have hxl1 := Nat.lt_of_lt_of_le hxl hbw1.size
 have HW1 := zab hbw1
 clear c0 c1 c2 c3 c4 c5 c6 c7 c8 c9 hbw1
 have hnew1 : Nonempty (zaf w1.heap.size w1) := zaf.some _ _
 have hlcw1 := fun (u : zaf w1.heap.size w1) b o h => u.cell b o h
 refine zad w1.heap.size (by kernel_rfl) (by kernel_rfl) ?_
 repeat (go_big_quiet_step (first
  | (go_at_call 33; exact Calls.later (Nat.le_refl _) (ud (HU _ ((ud HW1).trans (Below.mono (Subtype.property _) (ud HW1).size)))))
  | (go_at_call 115; exact Calls.later (Nat.le_refl _) (ud (HCO _ ((ud HW1).trans (Below.mono (Subtype.property _) (ud HW1).size)))))
  | (go_at_call 75; exact Calls.later (Nat.le_refl _) (ud (HQ _)))))
 refine wpQuiet_nil ?_
 rintro ⟨w2, hbw2⟩
 dsimp only
 clear hlcw1 hnew1
 have HW2 := zab ((ud HW1).trans (hbw2.mono (ud HW1).size))
 clear hbw2 d0 d1 d2 d3 d4 d5 d6 d7 d8 d9
 go_wp2_with fail
 go_ret
 exact ⟨rfl, ud HW2⟩
set_option maxRecDepth 20000 in
set_option maxHeartbeats 4000000 in
theorem ming_ok {w : World} {i : Ids} {c : Cf} {ep : Int} {m : MS} (h : zbb w i c ep m) (hc : c.ok) (ser tm val : Int) (hser : 0 <= ser /\ ser < 4) (htm : 0 <= tm /\ tm <= m.now) (hla : m.now - c.la <= tm) (hnow : m.now <= 100000) (hval : -2147483648 <= val /\ val <= 2147483647) (hu : 0 <= zby m.L /\ zby m.L <= 1000) (hst : stOk m.L) (hng : ∀ k : Nat, k < c.n -> zbm m.Gl (zdm c ser tm k) = none) (hge : zby m.L + (1 + 2 * zeq c m.L ⟨ser, tm, val⟩ c.n) <= c.qu) (hroom : m.L.length <= 1000000) (hsm : ∀ p ∈ m.L, p.1.t = -1 -> p.2.cl.small) :
  Calls Tryz.prog 59 #[.pointer (some ⟨i.x, 0, none⟩), int i64 ser, int i64 tm, .int .i32 val] w fun e w' => e = .returned (int i64 0) /\ zbb w' i c ep { m with L := addL c m.L ⟨ser, tm, val⟩ } /\ zan (fun k => k = i.lb) w w' := by
 obtain ⟨a, cap, htv, hts⟩ := h.ts
 obtain ⟨c0, c1, c2, c3, c4, c5, c6, c7, c8, c9, -⟩ := h.cells
 rw [htv] at c6
 have hxl := h.lt
 obtain ⟨hq1, hq2⟩ := hc.qu
 obtain ⟨hl1, hl2⟩ := hc.la
 have hmb := missL_bounds c m.L ⟨ser, tm, val⟩ c.n
 have hn4 := hc.n4
 have HU := fun W hW => zab (pused_any ((h.later (w' := W) hW).set) (by unfold i64B; omega))
 have HCO := fun W hW => zab (pcost_any ((h.later (w' := W) hW).set) hc ser tm val hser ⟨htm.1, by omega⟩ hst hng)
 have HQ := fun W => zab (lquota_any c a cap W)
 have HLG := fun W => zab (llag_any c a cap W)
 have HIS := fun W => zab (isSer_any ser W hser)
 obtain ⟨hu1, hu2⟩ := hu
 have hgt : decide (c.qu < zby m.L + (1 + 2 * zeq c m.L ⟨ser, tm, val⟩ c.n)) = false := by simp; omega
 have h1' : decide (tm < 0) = false := by simp; omega
 have h2' : decide (m.now < tm) = false := by simp; omega
 have h3' : decide (tm < m.now - c.la) = false := by simp; omega
 have H := zab h
 generalize hUe : zby m.L = U at *
 generalize hMe : zeq c m.L ⟨ser, tm, val⟩ c.n = M at *
 obtain ⟨ht1, ht2⟩ := htm
 have htm : 0 <= tm /\ tm <= m.now := ⟨ht1, ht2⟩
 clear h hts hUe hMe
 go_enter Tryz.func59, Tryz.ntmps59
 go_wp2_with (first | (go_at_call 113; refine (ud (HIS _)).mono ?_; rintro e W9 ⟨rfl, h9⟩; have h9' := h9.symm; subst h9'))
 have hnew : Nonempty (zaf w.heap.size w) := zaf.some _ _
 have hlcw := fun (u : zaf w.heap.size w) b o h => u.cell b o h
 refine zad w.heap.size (by kernel_rfl) (by kernel_rfl) ?_
 repeat (go_big_quiet_step (first
  | (go_at_call 114; exact Calls.later (Nat.le_refl _) (ud (HLG _)))))
 refine wpQuiet_nil ?_
 rintro ⟨w1, hbw1⟩
 dsimp only
 clear hlcw hnew
 go_wp2_with fail
 have d0 := (hbw1.cell (p := ⟨i.x, 0, none⟩) hxl).trans c0
 have d1 := (hbw1.cell (p := ⟨i.x, 1, none⟩) hxl).trans c1
 have d2 := (hbw1.cell (p := ⟨i.x, 2, none⟩) hxl).trans c2
 have d3 := (hbw1.cell (p := ⟨i.x, 3, none⟩) hxl).trans c3
 have d4 := (hbw1.cell (p := ⟨i.x, 4, none⟩) hxl).trans c4
 have d5 := (hbw1.cell (p := ⟨i.x, 5, none⟩) hxl).trans c5
 have d6 := (hbw1.cell (p := ⟨i.x, 6, none⟩) hxl).trans c6
 have d7 := (hbw1.cell (p := ⟨i.x, 7, none⟩) hxl).trans c7
 have d8 := (hbw1.cell (p := ⟨i.x, 8, none⟩) hxl).trans c8
 have d9 := (hbw1.cell (p := ⟨i.x, 9, none⟩) hxl).trans c9
 have hxl1 := Nat.lt_of_lt_of_le hxl hbw1.size
 have HW1 := zab hbw1
 clear c0 c1 c2 c3 c4 c5 c6 c7 c8 c9 hbw1
 have hnew1 : Nonempty (zaf w1.heap.size w1) := zaf.some _ _
 have hlcw1 := fun (u : zaf w1.heap.size w1) b o h => u.cell b o h
 refine zad w1.heap.size (by kernel_rfl) (by kernel_rfl) ?_
 repeat (go_big_quiet_step (first
  | (go_at_call 33; exact Calls.later (Nat.le_refl _) (ud (HU _ ((ud HW1).trans (Below.mono (Subtype.property _) (ud HW1).size)))))
  | (go_at_call 115; exact Calls.later (Nat.le_refl _) (ud (HCO _ ((ud HW1).trans (Below.mono (Subtype.property _) (ud HW1).size)))))
  | (go_at_call 75; exact Calls.later (Nat.le_refl _) (ud (HQ _)))))
 refine wpQuiet_nil ?_
 rintro ⟨w2, hbw2⟩
 dsimp only
 clear hlcw1 hnew1
 have HW2 := zab ((ud HW1).trans (hbw2.mono (ud HW1).size))
 clear hbw2 d0 d1 d2 d3 d4 d5 d6 d7 d8 d9
 have hM2 := (ud H).later (ud HW2)
 obtain ⟨-, -, -, -, -, -, -, -, -, e9, -⟩ := hM2.cells
 have hx2 := hM2.lt
 have HAD := zab (padd_any hM2.set hc ser tm val hser ⟨htm.1, by omega⟩ hval hst hroom hsm hng)
 have HM2 := zab hM2
 clear hM2
 go_wp2_with (first | (go_at_call 116; refine (ud HAD).mono ?_; rintro e V ⟨rfl, hS, hK⟩; have HS := zab hS; have HK := zab hK; clear hS hK))
 go_ret
 have hk : zan (fun k => k = i.lb) w2 V := ud HK
 exact ⟨rfl, (ud HM2).putSet (ud HS) (hk.mono (fun k _ e => .inr (.inr (.inl e)))), (zan.of_below (f := fun k => k = i.lb) (ud HW2)).trans hk (fun _ _ e => e)⟩
def zeb (v : SV) : Cl × Int := if v.st = 0 then (zds, 10) else if v.st = 2 then (zds, 11) else if v.st = 4 then (zds, 12) else (v.cl, 0)
def zez (c : Cf) (now : Int) (Gl : List (Sg × Unit)) (L : LV) (t ser win : Int) : Cl × Int :=
 if now - c.la < (win + 1) * c.width t then (zds, 9) else zeb (stG Gl L ⟨t, ser, win⟩)
set_option maxRecDepth 20000 in
set_option maxHeartbeats 8000000 in
theorem mquery_any {w : World} {i : Ids} {c : Cf} {ep : Int} {m : MS} (h : zbb w i c ep m) (hc : c.ok) (hnow : 0 <= m.now /\ m.now <= 100000) (t ser win : Int) (ht : -1 <= t /\ t < c.n) (hser : 0 <= ser /\ ser < 4) (hwin : 0 <= win /\ win <= 100000) :
  Calls Tryz.prog 60 #[.pointer (some ⟨i.x, 0, none⟩), int i64 t, int i64 ser, int i64 win] w fun e w' => e = .returned (.tuple #[.agg #[int i64 (zez c m.now m.Gl m.L t ser win).1.cnt, int i64 (zez c m.now m.Gl m.L t ser win).1.sum, .int .i32 (zez c m.now m.Gl m.L t ser win).1.mn, .int .i32 (zez c m.now m.Gl m.L t ser win).1.mx], int i64 (zez c m.now m.Gl m.L t ser win).2]) /\ Below w.heap.size w w' := by
 obtain ⟨a, cap, htv, hts⟩ := h.ts
 have hxl := h.lt
 have hb0 : Below w.heap.size w (w.alloc (.cells #[int i64 0, int i64 0, .int .i32 0, .int .i32 0] 114)) := (Below.refl _ _).alloc (Nat.le_refl _) _
 obtain ⟨c0, c1, c2, c3, c4, c5, c6, -, c8, c9, -⟩ := (h.later hb0).cells
 rw [htv] at c6
 have HB0 := zab hb0
 have HL0 := zab (zap w (.cells #[int i64 0, int i64 0, .int .i32 0, .int .i32 0] 114))
 have hq0 : w.heap.size < (w.alloc (.cells #[int i64 0, int i64 0, .int .i32 0, .int .i32 0] 114)).heap.size := by rw [zbd]; omega
 have hxz : i.x < (w.alloc (.cells #[int i64 0, int i64 0, .int .i32 0, .int .i32 0] 114)).heap.size := by rw [zbd]; omega
 have HH := zab (lhas_any c hc a cap t (w.alloc (.cells #[int i64 0, int i64 0, .int .i32 0, .int .i32 0] 114)))
 have hn4 := hc.n4
 rw [show inB t (-1) ((c.n : Int) - 1) = true from by rw [zdr]; omega] at HH
 have HS := fun W => zab (isSer_any ser W hser)
 have p3' : decide (win < 0) = false := by simp; omega
 have p4' : decide (100000 < win) = false := by simp; omega
 have HC := fun (W : World) (hb : Below (w.alloc (.cells #[int i64 0, int i64 0, .int .i32 0, .int .i32 0] 114)).heap.size (w.alloc (.cells #[int i64 0, int i64 0, .int .i32 0, .int .i32 0] 114)) W) => zab (lclosed_any c hc a cap t win m.now ht.1 ht.2 hwin hnow W.drew (hts.below (hb0.trans (hb.mono hb0.size)).drew))
 have hwf : (⟨t, ser, win⟩ : Sg).wf := by refine ⟨?_, ?_, ?_⟩ <;> unfold i64B <;> simp only <;> omega
 have HF := fun (W : World) (hb : Below (w.alloc (.cells #[int i64 0, int i64 0, .int .i32 0, .int .i32 0] 114)).heap.size (w.alloc (.cells #[int i64 0, int i64 0, .int .i32 0, .int .i32 0] 114)) W) => zab (pfind_any ((h.later hb0).later hb).set ⟨t, ser, win⟩ hwf)
 have K9 := c9
 clear hb0 h hts hwf
 by_cases p5 : m.now - c.la < (win + 1) * c.width t
 ·rw [show zez c m.now m.Gl m.L t ser win = (zds, 9) from by unfold zez; rw [if_pos p5]]
  rw [show decide ((win + 1) * c.width t <= m.now - c.la) = false from by simp; omega] at HC
  clear p5 HF
  go_enter Tryz.func60, Tryz.ntmps60
  go_wp2_with (first | (go_at_call 117; refine (ud HH).mono ?_; rintro e w1 ⟨rfl, hb1⟩; have m0 := (hb1.cell (p := ⟨i.x, 0, none⟩) hxz).trans c0; have m1 := (hb1.cell (p := ⟨i.x, 1, none⟩) hxz).trans c1; have m2 := (hb1.cell (p := ⟨i.x, 2, none⟩) hxz).trans c2; have m3 := (hb1.cell (p := ⟨i.x, 3, none⟩) hxz).trans c3; have m4 := (hb1.cell (p := ⟨i.x, 4, none⟩) hxz).trans c4; have m5 := (hb1.cell (p := ⟨i.x, 5, none⟩) hxz).trans c5; have m6 := (hb1.cell (p := ⟨i.x, 6, none⟩) hxz).trans c6; have m8 := (hb1.cell (p := ⟨i.x, 8, none⟩) hxz).trans c8; have m9 := (hb1.cell (p := ⟨i.x, 9, none⟩) hxz).trans c9; have y0 : w1.cell? ⟨w.heap.size, 0, none⟩ = some (int i64 0) := (by rw [zac ((hb1.block w.heap.size hq0).trans (ud HL0))]; rfl); have y1 : w1.cell? ⟨w.heap.size, 1, none⟩ = some (int i64 0) := (by rw [zac ((hb1.block w.heap.size hq0).trans (ud HL0))]; rfl); have y2 : w1.cell? ⟨w.heap.size, 2, none⟩ = some (.int .i32 0) := (by rw [zac ((hb1.block w.heap.size hq0).trans (ud HL0))]; rfl); have y3 : w1.cell? ⟨w.heap.size, 3, none⟩ = some (.int .i32 0) := (by rw [zac ((hb1.block w.heap.size hq0).trans (ud HL0))]; rfl); have yf := fun j => zaz ((hb1.block w.heap.size hq0).trans (ud HL0)) j; have HB1 := zab hb1) | (go_at_call 113; refine (ud (HS _)).mono ?_; rintro e W9 ⟨rfl, h9⟩; have h9' := h9.symm; subst h9'))
  have HCW := HC w1 (ud HB1)
  have hxz1 := Nat.lt_of_lt_of_le hxz (ud HB1).size
  clear y0 y1 y2 y3 yf hb1 c0 c1 c2 c3 c4 c5 c6 c8 c9 HC HS HH
  refine zes 10 (by kernel_rfl) (by kernel_rfl) ?_
  simp only [List.take_succ_cons, List.take_zero, List.drop_succ_cons, List.drop_zero]
  repeat still_step
  refine wpStill_nil ?_
  go_wp2_with (first | (go_at_call 118; refine (ud HCW).mono ?_; rintro e w3 ⟨rfl, hb3⟩; have hb13 : Below _ _ w3 := (ud HB1).trans ((bel_d hb3).mono (ud HB1).size); have n9 := (hb13.cell (p := ⟨i.x, 9, none⟩) hxz).trans K9; have y0 : w3.cell? ⟨w.heap.size, 0, none⟩ = some (int i64 0) := (by rw [zac ((hb13.block w.heap.size hq0).trans (ud HL0))]; rfl); have y1 : w3.cell? ⟨w.heap.size, 1, none⟩ = some (int i64 0) := (by rw [zac ((hb13.block w.heap.size hq0).trans (ud HL0))]; rfl); have y2 : w3.cell? ⟨w.heap.size, 2, none⟩ = some (.int .i32 0) := (by rw [zac ((hb13.block w.heap.size hq0).trans (ud HL0))]; rfl); have y3 : w3.cell? ⟨w.heap.size, 3, none⟩ = some (.int .i32 0) := (by rw [zac ((hb13.block w.heap.size hq0).trans (ud HL0))]; rfl); have yf := fun j => zaz ((hb13.block w.heap.size hq0).trans (ud HL0)) j; have HB13 := zab hb13))
  have e2 := ((ud HB13).block w.heap.size hq0).trans (ud HL0)
  have hf := set4c e2 (int i64 0) (int i64 0) (.int .i32 0) (.int .i32 0)
  refine bodyPost_ret (v := .tuple #[.agg #[int i64 0, int i64 0, .int .i32 0, .int .i32 0], int i64 9]) (zak Tryz.results60 _ _ w.heap.size _ _ _ _ _ rfl rfl hf Tryz.underlying114 rfl (by kernel_rfl)) rfl ?_
  exact ⟨rfl, (ud HB0).trans (((ud HB13).mono (ud HB0).size).trans (below4 (Nat.le_refl _) _ _ _ _))⟩
 rw [show zez c m.now m.Gl m.L t ser win = zeb (stG m.Gl m.L ⟨t, ser, win⟩) from by unfold zez; rw [if_neg p5]]
 rw [show decide ((win + 1) * c.width t <= m.now - c.la) = true from by simp; omega] at HC
 unfold clV at HF
 dsimp only at HF
 generalize stG m.Gl m.L ⟨t, ser, win⟩ = v at *
 clear p5
 by_cases p6 : v.st = 0
 ·rw [show zeb v = (zds, 10) from by unfold zeb; rw [if_pos p6]]
  have q6 : (v.st == 0) = true := by simp [p6]
  clear p6
  go_enter Tryz.func60, Tryz.ntmps60
  go_wp2_with (first | (go_at_call 117; refine (ud HH).mono ?_; rintro e w1 ⟨rfl, hb1⟩; have m0 := (hb1.cell (p := ⟨i.x, 0, none⟩) hxz).trans c0; have m1 := (hb1.cell (p := ⟨i.x, 1, none⟩) hxz).trans c1; have m2 := (hb1.cell (p := ⟨i.x, 2, none⟩) hxz).trans c2; have m3 := (hb1.cell (p := ⟨i.x, 3, none⟩) hxz).trans c3; have m4 := (hb1.cell (p := ⟨i.x, 4, none⟩) hxz).trans c4; have m5 := (hb1.cell (p := ⟨i.x, 5, none⟩) hxz).trans c5; have m6 := (hb1.cell (p := ⟨i.x, 6, none⟩) hxz).trans c6; have m8 := (hb1.cell (p := ⟨i.x, 8, none⟩) hxz).trans c8; have m9 := (hb1.cell (p := ⟨i.x, 9, none⟩) hxz).trans c9; have y0 : w1.cell? ⟨w.heap.size, 0, none⟩ = some (int i64 0) := (by rw [zac ((hb1.block w.heap.size hq0).trans (ud HL0))]; rfl); have y1 : w1.cell? ⟨w.heap.size, 1, none⟩ = some (int i64 0) := (by rw [zac ((hb1.block w.heap.size hq0).trans (ud HL0))]; rfl); have y2 : w1.cell? ⟨w.heap.size, 2, none⟩ = some (.int .i32 0) := (by rw [zac ((hb1.block w.heap.size hq0).trans (ud HL0))]; rfl); have y3 : w1.cell? ⟨w.heap.size, 3, none⟩ = some (.int .i32 0) := (by rw [zac ((hb1.block w.heap.size hq0).trans (ud HL0))]; rfl); have yf := fun j => zaz ((hb1.block w.heap.size hq0).trans (ud HL0)) j; have HB1 := zab hb1) | (go_at_call 113; refine (ud (HS _)).mono ?_; rintro e W9 ⟨rfl, h9⟩; have h9' := h9.symm; subst h9'))
  have HCW := HC w1 (ud HB1)
  have hxz1 := Nat.lt_of_lt_of_le hxz (ud HB1).size
  clear y0 y1 y2 y3 yf hb1 c0 c1 c2 c3 c4 c5 c6 c8 c9 HC HS HH
  refine zes 10 (by kernel_rfl) (by kernel_rfl) ?_
  simp only [List.take_succ_cons, List.take_zero, List.drop_succ_cons, List.drop_zero]
  repeat still_step
  refine wpStill_nil ?_
  go_wp2_with (first | (go_at_call 118; refine (ud HCW).mono ?_; rintro e w3 ⟨rfl, hb3⟩; have hb13 : Below _ _ w3 := (ud HB1).trans ((bel_d hb3).mono (ud HB1).size); have n9 := (hb13.cell (p := ⟨i.x, 9, none⟩) hxz).trans K9; have y0 : w3.cell? ⟨w.heap.size, 0, none⟩ = some (int i64 0) := (by rw [zac ((hb13.block w.heap.size hq0).trans (ud HL0))]; rfl); have y1 : w3.cell? ⟨w.heap.size, 1, none⟩ = some (int i64 0) := (by rw [zac ((hb13.block w.heap.size hq0).trans (ud HL0))]; rfl); have y2 : w3.cell? ⟨w.heap.size, 2, none⟩ = some (.int .i32 0) := (by rw [zac ((hb13.block w.heap.size hq0).trans (ud HL0))]; rfl); have y3 : w3.cell? ⟨w.heap.size, 3, none⟩ = some (.int .i32 0) := (by rw [zac ((hb13.block w.heap.size hq0).trans (ud HL0))]; rfl); have yf := fun j => zaz ((hb13.block w.heap.size hq0).trans (ud HL0)) j; have HB13 := zab hb13))
  have HFW := HF w3 (ud HB13)
  clear HF y0 y1 y2 y3 yf
  refine (ud HFW).mono ?_
  rintro e w4 ⟨rfl, hb4⟩
  have hb14 := (ud HB13).trans (hb4.mono (ud HB13).size)
  have y0 : w4.cell? ⟨w.heap.size, 0, none⟩ = some (int i64 0) := (by rw [zac ((hb14.block w.heap.size hq0).trans (ud HL0))]; rfl)
  have y1 : w4.cell? ⟨w.heap.size, 1, none⟩ = some (int i64 0) := (by rw [zac ((hb14.block w.heap.size hq0).trans (ud HL0))]; rfl)
  have y2 : w4.cell? ⟨w.heap.size, 2, none⟩ = some (.int .i32 0) := (by rw [zac ((hb14.block w.heap.size hq0).trans (ud HL0))]; rfl)
  have y3 : w4.cell? ⟨w.heap.size, 3, none⟩ = some (.int .i32 0) := (by rw [zac ((hb14.block w.heap.size hq0).trans (ud HL0))]; rfl)
  have yf := fun j => zaz ((hb14.block w.heap.size hq0).trans (ud HL0)) j
  have hq4 : w.heap.size < w4.heap.size := Nat.lt_of_lt_of_le hq0 hb14.size
  have HB14 := zab hb14
  clear hb4 hb14
  go_wp2_with fail
  have e2 := ((ud HB14).block w.heap.size hq0).trans (ud HL0)
  have hf0 := set4c e2 (int i64 0) (int i64 0) (.int .i32 0) (.int .i32 0)
  have hf := (Below.heap_alloc _ (.cells #[int i64 v.cl.cnt, int i64 v.cl.sum, .int .i32 v.cl.mn, .int .i32 v.cl.mx] 114) _ (zaa hf0)).trans hf0
  have hbz := (ud HB0).trans (((ud HB14).mono (ud HB0).size).trans (below4 (w := w4) (g := w.heap.size) (B := w.heap.size) (Nat.le_refl _) (int i64 0) (int i64 0) (.int .i32 0) (.int .i32 0)))
  refine bodyPost_ret (v := .tuple #[.agg #[int i64 0, int i64 0, .int .i32 0, .int .i32 0], int i64 10]) (zak Tryz.results60 _ _ w.heap.size _ _ _ _ _ rfl rfl hf Tryz.underlying114 rfl (by kernel_rfl)) rfl ?_
  exact ⟨rfl, hbz.alloc hbz.size _⟩
 have q6 : (v.st == 0) = false := by simp [p6]
 by_cases p7 : v.st = 2
 ·rw [show zeb v = (zds, 11) from by unfold zeb; rw [if_neg p6, if_pos p7]]
  have q7 : (v.st == 2) = true := by simp [p7]
  clear p6 p7
  go_enter Tryz.func60, Tryz.ntmps60
  go_wp2_with (first | (go_at_call 117; refine (ud HH).mono ?_; rintro e w1 ⟨rfl, hb1⟩; have m0 := (hb1.cell (p := ⟨i.x, 0, none⟩) hxz).trans c0; have m1 := (hb1.cell (p := ⟨i.x, 1, none⟩) hxz).trans c1; have m2 := (hb1.cell (p := ⟨i.x, 2, none⟩) hxz).trans c2; have m3 := (hb1.cell (p := ⟨i.x, 3, none⟩) hxz).trans c3; have m4 := (hb1.cell (p := ⟨i.x, 4, none⟩) hxz).trans c4; have m5 := (hb1.cell (p := ⟨i.x, 5, none⟩) hxz).trans c5; have m6 := (hb1.cell (p := ⟨i.x, 6, none⟩) hxz).trans c6; have m8 := (hb1.cell (p := ⟨i.x, 8, none⟩) hxz).trans c8; have m9 := (hb1.cell (p := ⟨i.x, 9, none⟩) hxz).trans c9; have y0 : w1.cell? ⟨w.heap.size, 0, none⟩ = some (int i64 0) := (by rw [zac ((hb1.block w.heap.size hq0).trans (ud HL0))]; rfl); have y1 : w1.cell? ⟨w.heap.size, 1, none⟩ = some (int i64 0) := (by rw [zac ((hb1.block w.heap.size hq0).trans (ud HL0))]; rfl); have y2 : w1.cell? ⟨w.heap.size, 2, none⟩ = some (.int .i32 0) := (by rw [zac ((hb1.block w.heap.size hq0).trans (ud HL0))]; rfl); have y3 : w1.cell? ⟨w.heap.size, 3, none⟩ = some (.int .i32 0) := (by rw [zac ((hb1.block w.heap.size hq0).trans (ud HL0))]; rfl); have yf := fun j => zaz ((hb1.block w.heap.size hq0).trans (ud HL0)) j; have HB1 := zab hb1) | (go_at_call 113; refine (ud (HS _)).mono ?_; rintro e W9 ⟨rfl, h9⟩; have h9' := h9.symm; subst h9'))
  have HCW := HC w1 (ud HB1)
  have hxz1 := Nat.lt_of_lt_of_le hxz (ud HB1).size
  clear y0 y1 y2 y3 yf hb1 c0 c1 c2 c3 c4 c5 c6 c8 c9 HC HS HH
  refine zes 10 (by kernel_rfl) (by kernel_rfl) ?_
  simp only [List.take_succ_cons, List.take_zero, List.drop_succ_cons, List.drop_zero]
  repeat still_step
  refine wpStill_nil ?_
  go_wp2_with (first | (go_at_call 118; refine (ud HCW).mono ?_; rintro e w3 ⟨rfl, hb3⟩; have hb13 : Below _ _ w3 := (ud HB1).trans ((bel_d hb3).mono (ud HB1).size); have n9 := (hb13.cell (p := ⟨i.x, 9, none⟩) hxz).trans K9; have y0 : w3.cell? ⟨w.heap.size, 0, none⟩ = some (int i64 0) := (by rw [zac ((hb13.block w.heap.size hq0).trans (ud HL0))]; rfl); have y1 : w3.cell? ⟨w.heap.size, 1, none⟩ = some (int i64 0) := (by rw [zac ((hb13.block w.heap.size hq0).trans (ud HL0))]; rfl); have y2 : w3.cell? ⟨w.heap.size, 2, none⟩ = some (.int .i32 0) := (by rw [zac ((hb13.block w.heap.size hq0).trans (ud HL0))]; rfl); have y3 : w3.cell? ⟨w.heap.size, 3, none⟩ = some (.int .i32 0) := (by rw [zac ((hb13.block w.heap.size hq0).trans (ud HL0))]; rfl); have yf := fun j => zaz ((hb13.block w.heap.size hq0).trans (ud HL0)) j; have HB13 := zab hb13))
  have HFW := HF w3 (ud HB13)
  clear HF y0 y1 y2 y3 yf
  refine (ud HFW).mono ?_
  rintro e w4 ⟨rfl, hb4⟩
  have hb14 := (ud HB13).trans (hb4.mono (ud HB13).size)
  have y0 : w4.cell? ⟨w.heap.size, 0, none⟩ = some (int i64 0) := (by rw [zac ((hb14.block w.heap.size hq0).trans (ud HL0))]; rfl)
  have y1 : w4.cell? ⟨w.heap.size, 1, none⟩ = some (int i64 0) := (by rw [zac ((hb14.block w.heap.size hq0).trans (ud HL0))]; rfl)
  have y2 : w4.cell? ⟨w.heap.size, 2, none⟩ = some (.int .i32 0) := (by rw [zac ((hb14.block w.heap.size hq0).trans (ud HL0))]; rfl)
  have y3 : w4.cell? ⟨w.heap.size, 3, none⟩ = some (.int .i32 0) := (by rw [zac ((hb14.block w.heap.size hq0).trans (ud HL0))]; rfl)
  have yf := fun j => zaz ((hb14.block w.heap.size hq0).trans (ud HL0)) j
  have hq4 : w.heap.size < w4.heap.size := Nat.lt_of_lt_of_le hq0 hb14.size
  have HB14 := zab hb14
  clear hb4 hb14
  go_wp2_with fail
  have e2 := ((ud HB14).block w.heap.size hq0).trans (ud HL0)
  have hf0 := set4c e2 (int i64 0) (int i64 0) (.int .i32 0) (.int .i32 0)
  have hf := (Below.heap_alloc _ (.cells #[int i64 v.cl.cnt, int i64 v.cl.sum, .int .i32 v.cl.mn, .int .i32 v.cl.mx] 114) _ (zaa hf0)).trans hf0
  have hbz := (ud HB0).trans (((ud HB14).mono (ud HB0).size).trans (below4 (w := w4) (g := w.heap.size) (B := w.heap.size) (Nat.le_refl _) (int i64 0) (int i64 0) (.int .i32 0) (.int .i32 0)))
  refine bodyPost_ret (v := .tuple #[.agg #[int i64 0, int i64 0, .int .i32 0, .int .i32 0], int i64 11]) (zak Tryz.results60 _ _ w.heap.size _ _ _ _ _ rfl rfl hf Tryz.underlying114 rfl (by kernel_rfl)) rfl ?_
  exact ⟨rfl, hbz.alloc hbz.size _⟩
 have q7 : (v.st == 2) = false := by simp [p7]
 by_cases p8 : v.st = 4
 ·rw [show zeb v = (zds, 12) from by unfold zeb; rw [if_neg p6, if_neg p7, if_pos p8]]
  have q8 : (v.st == 4) = true := by simp [p8]
  clear p6 p7 p8
  go_enter Tryz.func60, Tryz.ntmps60
  go_wp2_with (first | (go_at_call 117; refine (ud HH).mono ?_; rintro e w1 ⟨rfl, hb1⟩; have m0 := (hb1.cell (p := ⟨i.x, 0, none⟩) hxz).trans c0; have m1 := (hb1.cell (p := ⟨i.x, 1, none⟩) hxz).trans c1; have m2 := (hb1.cell (p := ⟨i.x, 2, none⟩) hxz).trans c2; have m3 := (hb1.cell (p := ⟨i.x, 3, none⟩) hxz).trans c3; have m4 := (hb1.cell (p := ⟨i.x, 4, none⟩) hxz).trans c4; have m5 := (hb1.cell (p := ⟨i.x, 5, none⟩) hxz).trans c5; have m6 := (hb1.cell (p := ⟨i.x, 6, none⟩) hxz).trans c6; have m8 := (hb1.cell (p := ⟨i.x, 8, none⟩) hxz).trans c8; have m9 := (hb1.cell (p := ⟨i.x, 9, none⟩) hxz).trans c9; have y0 : w1.cell? ⟨w.heap.size, 0, none⟩ = some (int i64 0) := (by rw [zac ((hb1.block w.heap.size hq0).trans (ud HL0))]; rfl); have y1 : w1.cell? ⟨w.heap.size, 1, none⟩ = some (int i64 0) := (by rw [zac ((hb1.block w.heap.size hq0).trans (ud HL0))]; rfl); have y2 : w1.cell? ⟨w.heap.size, 2, none⟩ = some (.int .i32 0) := (by rw [zac ((hb1.block w.heap.size hq0).trans (ud HL0))]; rfl); have y3 : w1.cell? ⟨w.heap.size, 3, none⟩ = some (.int .i32 0) := (by rw [zac ((hb1.block w.heap.size hq0).trans (ud HL0))]; rfl); have yf := fun j => zaz ((hb1.block w.heap.size hq0).trans (ud HL0)) j; have HB1 := zab hb1) | (go_at_call 113; refine (ud (HS _)).mono ?_; rintro e W9 ⟨rfl, h9⟩; have h9' := h9.symm; subst h9'))
  have HCW := HC w1 (ud HB1)
  have hxz1 := Nat.lt_of_lt_of_le hxz (ud HB1).size
  clear y0 y1 y2 y3 yf hb1 c0 c1 c2 c3 c4 c5 c6 c8 c9 HC HS HH
  refine zes 10 (by kernel_rfl) (by kernel_rfl) ?_
  simp only [List.take_succ_cons, List.take_zero, List.drop_succ_cons, List.drop_zero]
  repeat still_step
  refine wpStill_nil ?_
  go_wp2_with (first | (go_at_call 118; refine (ud HCW).mono ?_; rintro e w3 ⟨rfl, hb3⟩; have hb13 : Below _ _ w3 := (ud HB1).trans ((bel_d hb3).mono (ud HB1).size); have n9 := (hb13.cell (p := ⟨i.x, 9, none⟩) hxz).trans K9; have y0 : w3.cell? ⟨w.heap.size, 0, none⟩ = some (int i64 0) := (by rw [zac ((hb13.block w.heap.size hq0).trans (ud HL0))]; rfl); have y1 : w3.cell? ⟨w.heap.size, 1, none⟩ = some (int i64 0) := (by rw [zac ((hb13.block w.heap.size hq0).trans (ud HL0))]; rfl); have y2 : w3.cell? ⟨w.heap.size, 2, none⟩ = some (.int .i32 0) := (by rw [zac ((hb13.block w.heap.size hq0).trans (ud HL0))]; rfl); have y3 : w3.cell? ⟨w.heap.size, 3, none⟩ = some (.int .i32 0) := (by rw [zac ((hb13.block w.heap.size hq0).trans (ud HL0))]; rfl); have yf := fun j => zaz ((hb13.block w.heap.size hq0).trans (ud HL0)) j; have HB13 := zab hb13))
  have HFW := HF w3 (ud HB13)
  clear HF y0 y1 y2 y3 yf
  refine (ud HFW).mono ?_
  rintro e w4 ⟨rfl, hb4⟩
  have hb14 := (ud HB13).trans (hb4.mono (ud HB13).size)
  have y0 : w4.cell? ⟨w.heap.size, 0, none⟩ = some (int i64 0) := (by rw [zac ((hb14.block w.heap.size hq0).trans (ud HL0))]; rfl)
  have y1 : w4.cell? ⟨w.heap.size, 1, none⟩ = some (int i64 0) := (by rw [zac ((hb14.block w.heap.size hq0).trans (ud HL0))]; rfl)
  have y2 : w4.cell? ⟨w.heap.size, 2, none⟩ = some (.int .i32 0) := (by rw [zac ((hb14.block w.heap.size hq0).trans (ud HL0))]; rfl)
  have y3 : w4.cell? ⟨w.heap.size, 3, none⟩ = some (.int .i32 0) := (by rw [zac ((hb14.block w.heap.size hq0).trans (ud HL0))]; rfl)
  have yf := fun j => zaz ((hb14.block w.heap.size hq0).trans (ud HL0)) j
  have hq4 : w.heap.size < w4.heap.size := Nat.lt_of_lt_of_le hq0 hb14.size
  have HB14 := zab hb14
  clear hb4 hb14
  go_wp2_with fail
  have e2 := ((ud HB14).block w.heap.size hq0).trans (ud HL0)
  have hf0 := set4c e2 (int i64 0) (int i64 0) (.int .i32 0) (.int .i32 0)
  have hf := (Below.heap_alloc _ (.cells #[int i64 v.cl.cnt, int i64 v.cl.sum, .int .i32 v.cl.mn, .int .i32 v.cl.mx] 114) _ (zaa hf0)).trans hf0
  have hbz := (ud HB0).trans (((ud HB14).mono (ud HB0).size).trans (below4 (w := w4) (g := w.heap.size) (B := w.heap.size) (Nat.le_refl _) (int i64 0) (int i64 0) (.int .i32 0) (.int .i32 0)))
  refine bodyPost_ret (v := .tuple #[.agg #[int i64 0, int i64 0, .int .i32 0, .int .i32 0], int i64 12]) (zak Tryz.results60 _ _ w.heap.size _ _ _ _ _ rfl rfl hf Tryz.underlying114 rfl (by kernel_rfl)) rfl ?_
  exact ⟨rfl, hbz.alloc hbz.size _⟩
 have q8 : (v.st == 4) = false := by simp [p8]
 rw [show zeb v = (v.cl, 0) from by unfold zeb; rw [if_neg p6, if_neg p7, if_neg p8]]
 clear p6 p7 p8
 go_enter Tryz.func60, Tryz.ntmps60
 go_wp2_with (first | (go_at_call 117; refine (ud HH).mono ?_; rintro e w1 ⟨rfl, hb1⟩; have m0 := (hb1.cell (p := ⟨i.x, 0, none⟩) hxz).trans c0; have m1 := (hb1.cell (p := ⟨i.x, 1, none⟩) hxz).trans c1; have m2 := (hb1.cell (p := ⟨i.x, 2, none⟩) hxz).trans c2; have m3 := (hb1.cell (p := ⟨i.x, 3, none⟩) hxz).trans c3; have m4 := (hb1.cell (p := ⟨i.x, 4, none⟩) hxz).trans c4; have m5 := (hb1.cell (p := ⟨i.x, 5, none⟩) hxz).trans c5; have m6 := (hb1.cell (p := ⟨i.x, 6, none⟩) hxz).trans c6; have m8 := (hb1.cell (p := ⟨i.x, 8, none⟩) hxz).trans c8; have m9 := (hb1.cell (p := ⟨i.x, 9, none⟩) hxz).trans c9; have y0 : w1.cell? ⟨w.heap.size, 0, none⟩ = some (int i64 0) := (by rw [zac ((hb1.block w.heap.size hq0).trans (ud HL0))]; rfl); have y1 : w1.cell? ⟨w.heap.size, 1, none⟩ = some (int i64 0) := (by rw [zac ((hb1.block w.heap.size hq0).trans (ud HL0))]; rfl); have y2 : w1.cell? ⟨w.heap.size, 2, none⟩ = some (.int .i32 0) := (by rw [zac ((hb1.block w.heap.size hq0).trans (ud HL0))]; rfl); have y3 : w1.cell? ⟨w.heap.size, 3, none⟩ = some (.int .i32 0) := (by rw [zac ((hb1.block w.heap.size hq0).trans (ud HL0))]; rfl); have yf := fun j => zaz ((hb1.block w.heap.size hq0).trans (ud HL0)) j; have HB1 := zab hb1) | (go_at_call 113; refine (ud (HS _)).mono ?_; rintro e W9 ⟨rfl, h9⟩; have h9' := h9.symm; subst h9'))
 have HCW := HC w1 (ud HB1)
 have hxz1 := Nat.lt_of_lt_of_le hxz (ud HB1).size
 clear y0 y1 y2 y3 yf hb1 c0 c1 c2 c3 c4 c5 c6 c8 c9 HC HS HH
 refine zes 10 (by kernel_rfl) (by kernel_rfl) ?_
 simp only [List.take_succ_cons, List.take_zero, List.drop_succ_cons, List.drop_zero]
 repeat still_step
 refine wpStill_nil ?_
 go_wp2_with (first | (go_at_call 118; refine (ud HCW).mono ?_; rintro e w3 ⟨rfl, hb3⟩; have hb13 : Below _ _ w3 := (ud HB1).trans ((bel_d hb3).mono (ud HB1).size); have n9 := (hb13.cell (p := ⟨i.x, 9, none⟩) hxz).trans K9; have y0 : w3.cell? ⟨w.heap.size, 0, none⟩ = some (int i64 0) := (by rw [zac ((hb13.block w.heap.size hq0).trans (ud HL0))]; rfl); have y1 : w3.cell? ⟨w.heap.size, 1, none⟩ = some (int i64 0) := (by rw [zac ((hb13.block w.heap.size hq0).trans (ud HL0))]; rfl); have y2 : w3.cell? ⟨w.heap.size, 2, none⟩ = some (.int .i32 0) := (by rw [zac ((hb13.block w.heap.size hq0).trans (ud HL0))]; rfl); have y3 : w3.cell? ⟨w.heap.size, 3, none⟩ = some (.int .i32 0) := (by rw [zac ((hb13.block w.heap.size hq0).trans (ud HL0))]; rfl); have yf := fun j => zaz ((hb13.block w.heap.size hq0).trans (ud HL0)) j; have HB13 := zab hb13))
 have HFW := HF w3 (ud HB13)
 clear HF y0 y1 y2 y3 yf
 refine (ud HFW).mono ?_
 rintro e w4 ⟨rfl, hb4⟩
 have hb14 := (ud HB13).trans (hb4.mono (ud HB13).size)
 have y0 : w4.cell? ⟨w.heap.size, 0, none⟩ = some (int i64 0) := (by rw [zac ((hb14.block w.heap.size hq0).trans (ud HL0))]; rfl)
 have y1 : w4.cell? ⟨w.heap.size, 1, none⟩ = some (int i64 0) := (by rw [zac ((hb14.block w.heap.size hq0).trans (ud HL0))]; rfl)
 have y2 : w4.cell? ⟨w.heap.size, 2, none⟩ = some (.int .i32 0) := (by rw [zac ((hb14.block w.heap.size hq0).trans (ud HL0))]; rfl)
 have y3 : w4.cell? ⟨w.heap.size, 3, none⟩ = some (.int .i32 0) := (by rw [zac ((hb14.block w.heap.size hq0).trans (ud HL0))]; rfl)
 have yf := fun j => zaz ((hb14.block w.heap.size hq0).trans (ud HL0)) j
 have hq4 : w.heap.size < w4.heap.size := Nat.lt_of_lt_of_le hq0 hb14.size
 have HB14 := zab hb14
 clear hb4 hb14
 go_wp2_with fail
 have e2 := ((ud HB14).block w.heap.size hq0).trans (ud HL0)
 have hf0 := set4c e2 (int i64 v.cl.cnt) (int i64 v.cl.sum) (.int .i32 v.cl.mn) (.int .i32 v.cl.mx)
 have hf := (Below.heap_alloc _ (.cells #[int i64 v.cl.cnt, int i64 v.cl.sum, .int .i32 v.cl.mn, .int .i32 v.cl.mx] 114) _ (zaa hf0)).trans hf0
 have hbz := (ud HB0).trans (((ud HB14).mono (ud HB0).size).trans (below4 (w := w4) (g := w.heap.size) (B := w.heap.size) (Nat.le_refl _) (int i64 v.cl.cnt) (int i64 v.cl.sum) (.int .i32 v.cl.mn) (.int .i32 v.cl.mx)))
 refine bodyPost_ret (v := .tuple #[.agg #[int i64 v.cl.cnt, int i64 v.cl.sum, .int .i32 v.cl.mn, .int .i32 v.cl.mx], int i64 0]) (zak Tryz.results60 _ _ w.heap.size _ _ _ _ _ rfl rfl hf Tryz.underlying114 rfl (by kernel_rfl)) rfl ?_
 exact ⟨rfl, hbz.alloc hbz.size _⟩
end Go.Proofs.YtpbimdkclnekeaaGreat

namespace Go.Proofs.YtpbimdkclnekeaaGreat
open Go.RowKit Go.Maps Go.Shelf
set_option linter.unusedVariables false
section
variable {c : Cf} {ep : Int} {m : MS} {ns : List Nm}
theorem putL_new {L : LV} {s : Sg} {v : SV} : (s, v) ∈ putL L s v := by
 unfold putL
 by_cases h : s ∈ zam L
 ·rw [if_pos h]
  obtain ⟨p, hp, e⟩ := List.mem_map.1 (show s ∈ L.map (·.1) from h)
  exact List.mem_map.2 ⟨p, hp, by rw [if_pos e]⟩
 ·rw [if_neg h]; simp
theorem putL_old {L : LV} {s : Sg} {v : SV} {p : Sg × SV} (hp : p ∈ L) (hne : p.1 ≠ s) : p ∈ putL L s v := by
 unfold putL
 by_cases h : s ∈ zam L
 ·rw [if_pos h]
  exact List.mem_map.2 ⟨p, hp, by rw [if_neg hne]⟩
 ·rw [if_neg h]; simp [hp]
theorem addL_mem {L : LV} {x : Nm} {p : Sg × SV} (hp : p ∈ addL c L x) : p = (zbx c x, ⟨1, zdy x.val ((getL L (zbx c x)).map (·.cl))⟩) \/ (p ∈ L /\ p.1 ≠ zbx c x) \/ ∃ j : Nat, j < c.n /\ p = (zar c (j : Int) x, ⟨2, zds⟩) /\ zar c (j : Int) x ∉ zam L := by
 rcases addTo_mem x c.n _ hp with hp | ⟨j, hj, e, hn⟩
 ·rcases zde hp with hp | hp
  ·exact .inl hp
  ·exact .inr (.inl hp)
 ·exact .inr (.inr ⟨j, hj, e, fun hk => hn (zcw.2 (.inl hk))⟩)
theorem addL_old {L : LV} {x : Nm} {p : Sg × SV} (hp : p ∈ L) (hne : p.1 ≠ zbx c x) : p ∈ addL c L x := addTo_old x c.n _ (putL_old hp hne)
theorem addL_keys {L : LV} {x : Nm} {s : Sg} (h : s ∈ zam L) : s ∈ zam (addL c L x) := by
 have h1 : s ∈ zam (zct c L x) := by unfold zct; exact zcw.2 (.inl h)
 obtain ⟨p, hp, e⟩ := List.mem_map.1 (show s ∈ (zct c L x).map (·.1) from h1)
 subst e
 exact key_of (addTo_old x c.n _ hp)
theorem addL_wt {L : LV} {x : Nm} {y : Sg} (h : Wt (addL c L x) y) : Wt L y \/ ∃ j : Nat, j < c.n /\ y = zar c (j : Int) x /\ y ∉ zam L := by
 obtain ⟨v, hv, h2⟩ := h
 rcases addL_mem hv with e | ⟨hv, _⟩ | ⟨j, hj, e, hn⟩
 ·injection e with e1 e2; subst e2; simp at h2
 ·exact .inl ⟨v, hv, h2⟩
 ·injection e with e1 e2; exact .inr ⟨j, hj, e1, by rw [e1]; exact hn⟩
theorem joinNew_isC {L : LV} {x : Nm} (hsg : SegOk c m.now m.L m.Gl) (hc : c.ok) (hv : -2147483648 <= x.val /\ x.val <= 2147483647) {P : Nm -> Prop} [DecidablePred P] (hP : P x)
  (h : ∀ o, getL m.L (zbx c x) = some o -> IsC P ns o.cl) (h0 : getL m.L (zbx c x) = none -> ∀ y ∈ ns, ¬ P y) : IsC P (ns ++ [x]) (zdy x.val ((getL m.L (zbx c x)).map (·.cl))) := by
 cases hg : getL m.L (zbx c x) with
 | none =>
  have := (IsC.zero (h0 hg)).add hP
  have e : addW zds x.val = zdy x.val none := by
   simp only [addW, zds, zdy, Int.zero_add, true_or, if_true]
   rw [show wrap64 x.val = x.val by unfold wrap64; omega]
  rw [e] at this
  exact this
 | some o =>
  obtain ⟨h1, h2, h3, h4, h5⟩ := MOk.rawAt hsg hc hg
  have := (h o hg).add hP
  have e : addW o.cl x.val = zdy x.val (some o.cl) := by
   have hne : ¬ o.cl.cnt = 0 := by omega
   simp only [addW, zdy, hne, false_or]
   rw [show wrap64 (o.cl.sum + x.val) = x.val + o.cl.sum by unfold wrap64; omega, Int.add_comm o.cl.cnt]
   congr 1
   ·by_cases h1 : o.cl.mn < x.val
    ·rw [if_pos h1, if_neg (by omega)]
    ·rw [if_neg h1]; split <;> omega
   ·by_cases h1 : x.val < o.cl.mx
    ·rw [if_pos h1, if_neg (by omega)]
    ·rw [if_neg h1]; split <;> omega
  rw [e] at this
  exact this
theorem RInv.added (hc : c.ok) (hf : c.fits) (hm : MOk c ep m) (h : RInv c m ns) {x : Nm} (hs : 0 <= x.ser /\ x.ser < 4) (hx : 0 <= x.tm /\ x.tm <= m.now) (hl : m.now - c.la <= x.tm) (hv : -2147483648 <= x.val /\ x.val <= 2147483647) :
  RInv c { m with L := addL c m.L x } (ns ++ [x]) := by
 have hold : ∀ {y : Nm}, y ∈ ns ++ [x] -> y ∈ ns \/ y = x := fun hy => by
  rcases List.mem_append.1 hy with hy | hy
  ·exact .inl hy
  ·exact .inr (List.mem_singleton.1 hy)
 have hng : ∀ t : Int, -1 <= t -> t < c.n -> zar c t x ∉ zaj m.Gl := fun t h1 h2 => open_not_gone hc hm hl h1 h2
 have hn1 := hc.n1
 have hpub : ∀ y, Pub m.L y -> Pub (addL c m.L x) y := fun y ⟨v, hv', h3⟩ => ⟨v, addL_old hv' (fun e => by
  have h4 := (hm.seg.raw _ hv' (by rw [show y = zbx c x from e]; rfl)).1
  simp only at h4; omega), h3⟩
 -- no waiting segment of an elder number is new
 have hwt : ∀ y ∈ ns, ∀ t : Int, -1 <= t -> t < c.n -> Wt (addL c m.L x) (zar c t y) -> Wt m.L (zar c t y) := fun y hy t h1 h2 hw => by
  rcases addL_wt hw with hw | ⟨j, hj, e, hn⟩
  ·exact hw
  ·exfalso
   rcases h.keys y hy t h1 h2 with hk | hk
   ·exact hn hk
   ·rw [e] at hk; exact hng j (by omega) (by omega) hk
 have hself : ∀ s : Sg, s ∈ zam m.L -> c.clo m.now s -> zar c s.t x ≠ s := fun s hk hcl e => by
  have hin := hm.seg.inr _ (zbf hk)
  exact seg_open hc hin.2.1 hin.2.2.1 hl (by rw [e]; exact hcl)
 refine ⟨fun y hy => ?_, fun y hy t h1 h2 => ?_, fun s hs' => ?_, fun y hy k hk hg => ?_, h.over, fun p hp hst => ?_, fun p hp => ?_⟩
 ·rcases hold hy with hy | rfl
  ·exact h.tm y hy
  ·exact ⟨hx.1, hx.2, hs.1, hs.2, hv⟩
 ·rcases hold hy with hy | rfl
  ·exact (h.keys y hy t h1 h2).imp addL_keys id
  ·left
   by_cases ht : t = -1
   ·subst ht
    have h1 : zbx c y ∈ zam (zct c m.L y) := by unfold zct; exact zcw.2 (.inr rfl)
    obtain ⟨p, hp, e⟩ := List.mem_map.1 (show zbx c y ∈ (zct c m.L y).map (·.1) from h1)
    show zbx c y ∈ _
    rw [<- e]
    exact key_of (addTo_old y c.n _ hp)
   ·have := addTo_new (c := c) y c.n (zct c m.L y) t.toNat (by omega)
    rw [show ((t.toNat : Nat) : Int) = t by omega] at this
    exact this
 ·obtain ⟨p, hp, rfl⟩ := List.mem_map.1 (show s ∈ (addL c m.L x).map (·.1) from hs')
  rcases addL_mem hp with rfl | ⟨hp, _⟩ | ⟨j, hj, rfl, _⟩
  ·exact ⟨x, by simp, rfl⟩
  ·obtain ⟨y, hy, e⟩ := h.has _ (key_of hp)
   exact ⟨y, by simp [hy], e⟩
  ·exact ⟨x, by simp, rfl⟩
 ·have hF := hf.down k hk
  rcases hold hy with hy | rfl
  ·exact (h.gone y hy k hk hg).imp id (hpub _)
  ·exact absurd hg (hng _ hF.1 (by omega))
 ·rcases addL_mem hp with rfl | ⟨hp, hne⟩ | ⟨j, hj, rfl, _⟩
  ·refine joinNew_isC (L := m.L) hm.seg hc hv rfl (fun o ho => ?_) (fun ho y hy e => ?_)
   ·have hmo := getL_mem ho
    have h1 := (hm.seg.raw _ hmo rfl).1
    exact h.cell _ hmo (by simp only at h1 ⊢; omega)
   ·have e' : zar c (-1) y = zbx c x := e
    rcases h.keys y hy (-1) (by omega) (by omega) with hk | hk
    ·exact zfg.1 ho (e' ▸ hk)
    ·exact hng (-1) (by omega) (by omega) (show zbx c x ∈ _ from e' ▸ hk)
  ·refine (h.cell p hp hst).skip (fun e => ?_)
   have hin := hm.seg.inr p hp
   by_cases ht : p.1.t = -1
   ·exact hne (by rw [<- e, ht]; rfl)
   ·rcases hm.seg.tier p hp (by have := hin.2.1; omega) with h2 | h3
    ·exact hst h2
    ·exact open_not_pub hc hm hl hin.2.1 hin.2.2.1 ⟨p.2, by rw [e]; exact hp, h3⟩
  ·exact absurd rfl hst
 ·have ho := hm.tasks p hp
  have hin := hm.seg.inr _ (zbf ho.mem)
  have hR := h.tasks p hp
  refine ⟨fun e k hk y hy hys hw => ?_, fun e => ⟨(hR.recl e).1, fun y hy hys k hk hF hw => ?_⟩⟩
  ·have hkn : k < c.n := by have := hin.2.2.1; simp only at this; omega
   have hFk := hf.down k hkn
   rcases hold hy with hy | rfl
   ·exact hR.roll e k hk y hy hys (hwt y hy _ hFk.1 (by omega) hw)
   ·exact hself _ ho.mem ho.clo hys
  ·rcases hold hy with hy | rfl
   ·exact (hR.recl e).2 y hy hys k hk hF (hwt y hy _ (by omega) (by omega) hw)
   ·exact hself _ ho.mem ho.clo hys
theorem win_iff {q y v : Int} (hq : 1 <= q) : y / q = v ↔ v * q <= y /\ y < v * q + q := by
 constructor
 ·intro h
  subst h
  have h1 := Int.emod_add_mul_ediv y q
  have h2 := Int.emod_nonneg y (show q ≠ 0 by omega)
  have h3 := Int.emod_lt_of_pos y (show 0 < q by omega)
  rw [Int.mul_comm] at h1
  omega
 ·rintro ⟨h1, h2⟩
  have h3 : v <= y / q := (Int.le_ediv_iff_mul_le (by omega)).2 h1
  have h4 : y / q < v + 1 := (Int.ediv_lt_iff_lt_mul (by omega)).2 (by rw [Int.add_mul, Int.one_mul]; exact h2)
  omega
theorem RInv.rolled (hc : c.ok) (hf : c.fits) (hm : MOk c ep m) (h : RInv c m ns) (hlen : (ns.length : Int) < 9223372036854775808) {j : Jk} {s : Sg} {since tries rest : Int} {k : Nat} (hx : zbm m.TL j = some ⟨true, s, since, tries, rest⟩) (hk : s.t = k) (Q1 : List (Tok × Lse)) :
  RInv c { m with L := putL m.L s ⟨3, zdn (standL c m.L s.ser s.win k)⟩, TL := zcj m.TL j, QL := Q1 } ns := by
 have ho := hm.tasks _ (zat hx)
 have hR := (h.tasks _ (zat hx)).roll rfl
 have hmem : s ∈ zam m.L := ho.mem
 have hin := hm.seg.inr _ (zbf hmem)
 have hst : (stL m.L s).st = 2 := ho.roll rfl
 have hkn : k < c.n := by have := hin.2.2.1; simp only at this; omega
 have hF := hf.down k hkn
 have hwf := (hc.width hF.1 (show c.F k < c.n by omega)).1
 obtain ⟨q, hq1, hq⟩ := hf.quot k hkn
 have hmany : manyOf c k = q := by
  unfold manyOf
  rw [width_nat, hq, Int.mul_ediv_cancel_left _ (by omega)]
 have hin2 : ∀ x ∈ ns, (x.ser = s.ser /\ s.win * q <= x.tm / c.width (c.F k) /\ x.tm / c.width (c.F k) < s.win * q + q) ↔ zar c s.t x = s := fun x hxn => by
  have h0 := (h.tm x hxn).1
  rw [<- win_iff hq1, Int.ediv_ediv_of_nonneg (by omega), <- hq, hk]
  obtain ⟨st, ss, sw⟩ := s
  simp only at hk ⊢
  unfold zar
  rw [width_nat]
  subst hk
  simp only [Sg.mk.injEq, true_and]
 have hpubne : ¬ Pub m.L s := fun ⟨v, hv, h3⟩ => by rw [mem_one hm.seg.nl (zbf hmem) hv] at hst; omega
 have hcell : IsC (fun x => zar c s.t x = s) ns (zdn (standL c m.L s.ser s.win k)) := by
  unfold standL
  rw [hmany]
  have hcast : ((q.toNat : Nat) : Int) = q := by omega
  have := (stand_isC (L := m.L) (wd := c.width (c.F k)) (f := c.F k) (ser := s.ser) (a := s.win * q) hlen q.toNat (fun i hi => ?_)).1
  ·rw [hcast] at this
   exact this.congr hin2
  ·have hiq : (i : Int) < q := by omega
   have hkey : ∀ x : Nm, (x.ser = s.ser /\ x.tm / c.width (c.F k) = s.win * q + i) ↔ zar c (c.F k) x = ⟨c.F k, s.ser, s.win * q + i⟩ := fun x => by
    unfold zar; simp only [Sg.mk.injEq, true_and]
   have hup : ∀ x ∈ ns, (x.ser = s.ser /\ x.tm / c.width (c.F k) = s.win * q + i) -> zar c s.t x = s := fun x hxn e => (hin2 x hxn).1 ⟨e.1, by omega, by omega⟩
   refine ⟨fun v hv => ?_, fun hn x hxn e => ?_⟩
   ·have hvm := getL_mem hv
    obtain ⟨y, hy, e⟩ := h.has _ (key_of hvm)
    have e' := (hkey y).2 e
    have hnw : v.st ≠ 2 := fun h2 => hR k hk y hy (hup y hy e') ⟨v, by rw [(hkey y).1 e']; exact hvm, h2⟩
    have hC := h.cell _ hvm hnw
    refine ⟨hC.congr (fun x _ => (hkey x).symm), fun h0 => zdt.1 h0 y hy e'⟩
   ·have e1 := (hkey x).1 e
    rcases h.keys x hxn (c.F k) hF.1 (by omega) with hh | hh
    ·exact zfg.1 hn (e1 ▸ hh)
    ·have hs := hup x hxn e
     have hs' : zar c (k : Int) x = s := by rw [<- hk]; exact hs
     rcases h.gone x hxn k hkn hh with hg | hg
     ·rw [hs'] at hg; exact hm.seg.disj _ (zbf hmem) hg
     ·rw [hs'] at hg; exact hpubne hg
 have hwt : ∀ y, Wt (putL m.L s ⟨3, zdn (standL c m.L s.ser s.win k)⟩) y -> Wt m.L y := fun y ⟨v, hv, h2⟩ => by
  rcases zde hv with e | ⟨hv, _⟩
  ·injection e with e1 e2; subst e2; simp at h2
  ·exact ⟨v, hv, h2⟩
 refine ⟨h.tm, fun x hxn t h1 h2 => (h.keys x hxn t h1 h2).imp (fun hh => zcw.2 (.inl hh)) id, fun y hy => ?_, fun x hxn k' hk' hg => ?_, h.over, fun p hp hpst => ?_, fun p hp => ((h.tasks p (zbh.1 hp).1).live hwt)⟩
 ·rcases zcw.1 hy with hy | rfl
  ·exact h.has y hy
  ·exact h.has _ hmem
 ·rcases h.gone x hxn k' hk' hg with hh | ⟨v, hv, h3⟩
  ·exact .inl hh
  ·right
   by_cases e : zar c (k' : Int) x = s
   ·rw [e]; exact ⟨_, putL_new, rfl⟩
   ·exact ⟨v, putL_old hv e, h3⟩
 ·rcases zde hp with rfl | ⟨hp, _⟩
  ·exact hcell
  ·exact h.cell p hp hpst
theorem RInv.reclaimed (hc : c.ok) (hf : c.fits) (hm : MOk c ep m) (h : RInv c m ns) {j : Jk} {s : Sg} {since tries rest : Int} (hx : zbm m.TL j = some ⟨false, s, since, tries, rest⟩) (Q1 : List (Tok × Lse)) :
  RInv c { m with L := zcj m.L s, Gl := zer m.Gl s (), TL := zcj m.TL j, QL := Q1 } ns := by
 have ho := hm.tasks _ (zat hx)
 have hR := (h.tasks _ (zat hx)).recl rfl
 have hmem : s ∈ zam m.L := ho.mem
 have hdel : ∀ y, y ∈ zam m.L -> y ≠ s -> y ∈ zam (zcj m.L s) := fun y hy hne => by
  obtain ⟨p, hp, rfl⟩ := List.mem_map.1 (show y ∈ m.L.map (·.1) from hy)
  exact key_of (zbh.2 ⟨hp, hne⟩)
 have hwt : ∀ y, Wt (zcj m.L s) y -> Wt m.L y := fun y ⟨v, hv, h2⟩ => ⟨v, (zbh.1 hv).1, h2⟩
 refine ⟨h.tm, fun x hxn t h1 h2 => ?_, fun y hy => ?_, fun x hxn k hk hg => ?_, fun y hy => ?_, fun p hp hpst => h.cell p (zbh.1 hp).1 hpst, fun p hp => ((h.tasks p (zbh.1 hp).1).live hwt)⟩
 ·by_cases e : zar c t x = s
  ·exact .inr (zbw.2 (.inr e))
  ·exact (h.keys x hxn t h1 h2).imp (fun hh => hdel _ hh e) (fun hh => zbw.2 (.inl hh))
 ·obtain ⟨p, hp, rfl⟩ := List.mem_map.1 (show y ∈ (zcj m.L s).map (·.1) from hy)
  exact h.has _ (key_of (zbh.1 hp).1)
 ·by_cases e : zar c (k : Int) x = s
  ·exact .inl (zbw.2 (.inr e))
  ·have hpd : Pub m.L (zar c (k : Int) x) -> Pub (zcj m.L s) (zar c (k : Int) x) := fun ⟨v, hv, h3⟩ => ⟨v, zbh.2 ⟨hv, e⟩, h3⟩
   rcases zbw.1 hg with hg | hg
   ·exact (h.gone x hxn k hk hg).imp (fun hh => zbw.2 (.inl hh)) hpd
   ·have hFs : c.F k = s.t := by rw [<- hg]; rfl
    have hnw := hR.2 x hxn (by rw [<- hFs]; exact hg) k hk hFs
    rcases h.keys x hxn k (by omega) (by omega) with hh | hh
    ·right
     refine hpd ⟨_, zbf hh, ?_⟩
     rcases hm.seg.tier _ (zbf hh) (by show (0 : Int) <= k; omega) with h2 | h3
     ·exact absurd ⟨_, zbf hh, h2⟩ hnw
     ·exact h3
    ·exact .inl (zbw.2 (.inl hh))
 ·rcases zbw.1 hy with hy | rfl
  ·exact h.over y hy
  ·exact hR.1
theorem RInv.act (hc : c.ok) (hf : c.fits) {m' : MS} {ns' : List Nm} (hs : SOk c ep m ns.length) (h : RInv c m ns) (hlen : (ns.length : Int) < 9223372036854775808) (ha : Act1 c ep m ns m' ns') : RInv c m' ns' := by
 cases ha with
 | same => exact h
 | added x h1 h2 h3 h4 h5 => exact h.added hc hf hs.ok h1 h2 h3 h4
 | ticked n TL1 TL' QL1 hn hnow he hq hp =>
  have h1 : RInv c { m with now := m.now + n, TL := TL1, QL := QL1 } ns := h.ticked (by omega) (exps_mem he) m.num
  have hsg : SegOk c (m.now + n) m.L m.Gl := (hs.tick hc hf hn hnow he hq hp).1.ok.seg
  exact h1.post hc hf hsg hp
 | taken p slot hp hfr => exact h.ticked (Int.le_refl _) (fun p hp => ⟨p, hp, rfl, rfl⟩) _
 | failed t g x hg hx => exact h.ticked (Int.le_refl _) (fun p hp => failed_mem hx hp) m.num
 | rolled t g s since tries rest k TL' hg hx hk hp =>
  have h1 := h.rolled hc hf hs.ok hlen hx hk (zcj m.QL t)
  have hsg := (hs.ok.rolled hg hx rfl (zdn (standL c m.L s.ser s.win k))).1.seg
  exact h1.post hc hf hsg hp
 | reclaimed t g s since tries rest TL' hg hx hp =>
  have h1 := h.reclaimed hc hf hs.ok hx (zcj m.QL t)
  have hsg := (hs.ok.reclaimed hg hx rfl).1.seg
  exact h1.post hc hf hsg hp
theorem RInv.start (c : Cf) (now : Int) : RInv c ⟨now, [], [], 0, [], []⟩ [] :=
 ⟨fun x hx => (by cases hx), fun x hx => (by cases hx), fun s hs => (by cases hs), fun x hx => (by cases hx), fun s hs => (by cases hs), fun p hp => (by cases hp), fun p hp => (by cases hp)⟩
inductive Told (c : Cf) (m : MS) (ns : List Nm) (x : Nm) (t : Int) (q : Cl × Int) : Prop
 | opn (h1 : ¬ c.clo m.now (zar c t x)) (h2 : q = (zds, 9))
 | ok (h1 : c.clo m.now (zar c t x)) (h2 : q.2 = 0) (h3 : IsC (fun y => zar c t y = zar c t x) ns q.1)
 | wait (h1 : c.clo m.now (zar c t x)) (h2 : q = (zds, 11)) (h3 : 0 <= t)
 | gone (h1 : c.clo m.now (zar c t x)) (h2 : q = (zds, 12)) (h3 : ((zar c t x).win + 1) * c.width t + c.keep t <= m.now) (h4 : ∀ k : Nat, k < c.n -> c.F k = t -> (zez c m.now m.Gl m.L k x.ser (x.tm / c.width k)).2 = 0 \/ (zez c m.now m.Gl m.L k x.ser (x.tm / c.width k)).2 = 12)
theorem stG_gone {Gl : List (Sg × Unit)} {L : LV} {s : Sg} (h : s ∈ zaj Gl) : (stG Gl L s).st = 4 := by
 unfold stG
 cases hg : zbm Gl s with
 | none => exact absurd h (zcb.1 hg)
 | some u => rfl
theorem stG_live {Gl : List (Sg × Unit)} {L : LV} {s : Sg} (h : s ∉ zaj Gl) : stG Gl L s = stL L s := by
 unfold stG
 rw [zcb.2 h]
theorem RInv.told (hc : c.ok) (hf : c.fits) (hm : MOk c ep m) (h : RInv c m ns) {x : Nm} (hx : x ∈ ns) {t : Int} (h1 : -1 <= t) (h2 : t < c.n) : Told c m ns x t (zez c m.now m.Gl m.L t x.ser (x.tm / c.width t)) := by
 by_cases hcl : c.clo m.now (zar c t x)
 ·have hcl' := hcl
  unfold Cf.clo at hcl
  have hq : zez c m.now m.Gl m.L t x.ser (x.tm / c.width t) = zeb (stG m.Gl m.L (zar c t x)) := by
   unfold zez
   rw [if_neg (by simp only [zar] at hcl; omega)]
   rfl
  by_cases hg : zar c t x ∈ zaj m.Gl
  ·have h4 := stG_gone (L := m.L) hg
   refine .gone hcl' (by rw [hq]; unfold zeb; rw [h4]; simp) (h.over _ hg) (fun k hk hF => ?_)
   have hup := h.gone x hx k hk (by rw [hF]; exact hg)
   have hcu : c.clo m.now (zar c (k : Int) x) := by
    rcases hup with hu | ⟨v, hv, h3⟩
    ·exact hm.seg.goc _ hu
    ·exact hm.seg.pubc _ hv h3
   have hqu : zez c m.now m.Gl m.L k x.ser (x.tm / c.width k) = zeb (stG m.Gl m.L (zar c k x)) := by
    unfold zez
    unfold Cf.clo at hcu
    rw [if_neg (by simp only [zar] at hcu; omega)]
    rfl
   rw [hqu]
   rcases hup with hu | ⟨v, hv, h3⟩
   ·right; unfold zeb; rw [stG_gone hu]; simp
   ·left
    have hng : zar c (k : Int) x ∉ zaj m.Gl := hm.seg.disj _ hv
    have := zbf (key_of hv)
    rw [stG_live hng, mem_one hm.seg.nl this hv]
    unfold zeb; rw [h3]; simp
  ·have hk : zar c t x ∈ zam m.L := (h.keys x hx t h1 h2).resolve_right hg
   have hmem := zbf hk
   rw [stG_live hg] at hq
   by_cases ht : t = -1
   ·have h5 := (hm.seg.raw _ hmem (by rw [ht]; rfl)).1
    simp only at h5
    have hqv : zeb (stL m.L (zar c t x)) = ((stL m.L (zar c t x)).cl, 0) := by unfold zeb; rw [h5]; simp
    refine .ok hcl' (by rw [hq, hqv]) ?_
    rw [hq, hqv]
    exact h.cell _ hmem (by simp only; omega)
   ·rcases hm.seg.tier _ hmem (by show 0 <= t; omega) with h5 | h5
    ·simp only at h5
     exact .wait hcl' (by rw [hq]; unfold zeb; rw [h5]; simp) (by omega)
    ·simp only at h5
     have hqv : zeb (stL m.L (zar c t x)) = ((stL m.L (zar c t x)).cl, 0) := by unfold zeb; rw [h5]; simp
     refine .ok hcl' (by rw [hq, hqv]) ?_
     rw [hq, hqv]
     exact h.cell _ hmem (by simp only; omega)
 ·refine .opn hcl ?_
  unfold Cf.clo at hcl
  unfold zez
  rw [if_pos (by simp only [zar] at hcl; omega)]
end
structure TieR (c : Cf) (m : MS) (r : RM) : Prop where
 hc : r.c = c
 now : r.now = m.now
 gone : ∀ s, memB s r.gone = true ↔ s ∈ zaj m.Gl
 pub : ∀ s, memB s r.pub = true ↔ Pub m.L s \/ (0 <= s.t /\ s ∈ zaj m.Gl)
 inv : RInv c m r.nums
section
variable {c : Cf} {ep : Int} {m : MS} {r : RM}
theorem TieR.there (h : TieR c m r) {s : Sg} (hs : s ∈ zax r.c r.nums) : -1 <= s.t /\ s.t < c.n /\ (s ∈ zam m.L \/ s ∈ zaj m.Gl) := by
 rw [h.hc] at hs
 obtain ⟨h1, h2, x, hx, e⟩ := mem_segsOf.1 hs
 refine ⟨h1, h2, ?_⟩
 have := h.inv.keys x hx s.t h1 h2
 rwa [<- e] at this
theorem TieR.seg (h : TieR c m r) {s : Sg} (hin : -1 <= s.t /\ s.t < c.n) (hs : s ∈ zam m.L) : s ∈ zax r.c r.nums := by
 rw [h.hc, mem_segsOf]
 obtain ⟨x, hx, e⟩ := h.inv.has s hs
 exact ⟨hin.1, hin.2, x, hx, e.symm⟩
theorem TieR.wt (h : TieR c m r) (hm : MOk c ep m) {s : Sg} (hs : s ∈ zax r.c r.nums) (h0 : 0 <= s.t) : Wt m.L s ↔ (memB s r.pub = false /\ memB s r.gone = false) := by
 obtain ⟨h1, h2, h3⟩ := h.there hs
 constructor
 ·intro hw
  obtain ⟨hk, hst⟩ := wt_stL hm.seg.nl hw
  have hg : s ∉ zaj m.Gl := by
   obtain ⟨v, hv, -⟩ := hw
   exact hm.seg.disj _ hv
  refine ⟨?_, ?_⟩
  ·rw [Bool.eq_false_iff, ne_eq, h.pub]
   rintro (⟨v, hv, e⟩ | ⟨-, e⟩)
   ·obtain ⟨u, hu, eu⟩ := hw
    have := mem_one hm.seg.nl hu hv
    rw [this] at eu; omega
   ·exact hg e
  ·rw [Bool.eq_false_iff, ne_eq, h.gone]; exact hg
 ·rintro ⟨hp, hg⟩
  rw [Bool.eq_false_iff, ne_eq, h.pub] at hp
  rw [Bool.eq_false_iff, ne_eq, h.gone] at hg
  have hk := h3.resolve_right hg
  have hv := zbf hk
  rcases hm.seg.tier _ hv h0 with e | e
  ·exact ⟨_, hv, e⟩
  ·exact absurd (.inl ⟨_, hv, e⟩) hp
end
section
variable {c : Cf} {ep : Int} {m : MS} {r : RM}
theorem on_hang {s x : Sg} (h0 : 0 <= x.t) (h1 : x.t < c.n) : onB c x s = true ↔ x ∈ hangL c s := by
 obtain ⟨k, hk⟩ : ∃ k : Nat, x.t = k := ⟨x.t.toNat, by omega⟩
 have hkn : k < c.n := by omega
 have hw : c.width x.t = c.W k := by rw [hk, width_nat]
 unfold onB hangL aboL
 rw [List.map_map, List.mem_map]
 constructor
 ·intro h
  split at h
  ·cases h
  ·rename_i hno
   simp only [not_or, ne_eq, Classical.not_not] at hno
   obtain ⟨-, hF, hser⟩ := hno
   have e : s.win * c.width s.t / c.width x.t = x.win := by simpa using h
   refine ⟨k, List.mem_filter.2 ⟨by simpa using hkn, ?_⟩, ?_⟩
   ·rw [hk, Int.toNat_natCast] at hF
    simpa using hF
   ·obtain ⟨t, ser, win⟩ := x
    simp only at hk hser e hw ⊢
    show (⟨(k : Int), s.ser, s.win * c.width s.t / c.W k⟩ : Sg) = ⟨t, ser, win⟩
    rw [<- hw, e, hk, hser]
 ·rintro ⟨i, hi, rfl⟩
  obtain ⟨hi1, hi2⟩ := List.mem_filter.1 hi
  have hF : c.F i = s.t := by simpa using hi2
  simp only [Function.comp] at *
  rw [if_neg]
  ·rw [width_nat]; simp
  ·rintro (h | h | h)
   ·omega
   ·exact h (by rw [Int.toNat_natCast]; exact hF)
   ·exact h rfl
theorem hangs_iff (hc : c.ok) {L : LV} {k : Sg} (hin : inR c k) : hangsB c L k = true ↔ ∀ x ∈ hangL c k, (stL L x).st ≠ 2 := by
 unfold hangsB
 constructor
 ·intro h x hx hst
  obtain ⟨y, hy, rfl⟩ := List.mem_map.1 ((hangW_mem hc hin x).2 hx)
  have h2 : ((hangW c k).filter (fun x => (stL L x.1).st == 2)).length = 0 := by
   have : (((hangW c k).filter (fun x => (stL L x.1).st == 2)).length : Int) = 0 := by simpa using h
   omega
  have h3 : y ∈ (hangW c k).filter (fun x => (stL L x.1).st == 2) := List.mem_filter.2 ⟨hy, by simpa using hst⟩
  rw [List.length_eq_zero_iff.1 h2] at h3
  cases h3
 ·intro h
  have h5 : ((hangW c k).filter (fun y => (stL L y.1).st == 2)) = [] := by
   rw [List.filter_eq_nil_iff]
   intro y hy hy2
   exact h y.1 ((hangW_mem hc hin y.1).1 (List.mem_map.2 ⟨y, hy, rfl⟩)) (by simpa using hy2)
  rw [h5]; rfl
end
section
variable {c : Cf} {ep : Int} {m : MS} {r : RM}
theorem st_keys {L : LV} {x : Sg} (h : (stL L x).st = 2) : x ∈ zam L := by
 apply Classical.byContradiction
 intro hn
 have : stL L x = ⟨0, zds⟩ := by unfold stL; rw [zfg.2 hn]; rfl
 rw [this] at h; simp at h
theorem hang_t {s x : Sg} (h : x ∈ hangL c s) : 0 <= x.t /\ x.t < c.n := by
 unfold hangL aboL at h
 rw [List.map_map] at h
 obtain ⟨j, hj, rfl⟩ := List.mem_map.1 h
 have := (List.mem_filter.1 hj).1
 simp at this
 show 0 <= (j : Int) /\ (j : Int) < c.n
 omega
theorem ready2_iff (hc : c.ok) (hm : MOk c ep m) (h : TieR c m r) {s : Sg} (hs : s ∈ zax r.c r.nums) : zdk r s (zax r.c r.nums) = true ↔ s ∈ zam m.L /\ reclB c m.L m.now s = true := by
 obtain ⟨h1, h2, h3⟩ := h.there hs
 unfold zdk zef reclB
 rw [h.hc, h.now] at *
 simp only [Bool.and_eq_true, Bool.not_eq_true', decide_eq_false_iff_not, Bool.and_eq_false_iff, List.all_eq_true, beq_eq_false_iff_ne, decide_eq_true_eq, Bool.not_eq_false', ne_eq]
 have hbar : s ∈ zam m.L -> ((∀ x ∈ zax c r.nums, bars2 r s x = false) ↔ hangsB c m.L s = true) := fun hk => by
  have hin := hm.seg.inr _ (zbf hk)
  rw [hangs_iff hc hin]
  constructor
  ·intro hb x hx hst
   have hxt := hang_t hx
   have hxs : x ∈ zax c r.nums := by have := h.seg ⟨by omega, hxt.2⟩ (st_keys hst); rwa [h.hc] at this
   have hw : Wt m.L x := ⟨_, zbf (st_keys hst), hst⟩
   have hpg := (h.wt hm (by rw [h.hc]; exact hxs) hxt.1).1 hw
   have := hb x hxs
   unfold bars2 at this
   rw [h.hc, (on_hang hxt.1 hxt.2).2 hx, hpg.1, hpg.2] at this
   cases this
  ·intro hb x hx
   cases hbx : bars2 r s x with
   | false => rfl
   | true =>
    unfold bars2 at hbx
    simp only [Bool.and_eq_true, Bool.not_eq_true'] at hbx
    obtain ⟨⟨b1, b2⟩, b3⟩ := hbx
    rw [h.hc] at b1
    obtain ⟨t1, t2, -⟩ := h.there (s := x) (by rw [h.hc]; exact hx)
    have ht0 : 0 <= x.t := by
     apply Classical.byContradiction
     intro hn
     rw [on_1 (by omega)] at b1; cases b1
    obtain ⟨-, hst⟩ := wt_stL hm.seg.nl ((h.wt hm (by rw [h.hc]; exact hx) ht0).2 ⟨b2, b3⟩)
    exact absurd hst (hb x ((on_hang ht0 t2).1 b1))
 constructor
 ·rintro ⟨⟨⟨a1, a2⟩, a3⟩, a4⟩
  have hg : s ∉ zaj m.Gl := fun e => by rw [(h.gone s).2 e] at a1; cases a1
  have hk := h3.resolve_right hg
  refine ⟨hk, ⟨fun hst => ?_, ?_⟩, (hbar hk).1 a4⟩
  ·have hv := zbf hk
   rcases a2 with a2 | a2
   ·have := (hm.seg.raw _ hv (by show s.t = -1; omega)).1
    simp only at this
    omega
   ·rcases (h.pub s).1 a2 with ⟨v, hv', e⟩ | ⟨-, e⟩
    ·have := mem_one hm.seg.nl hv hv'
     rw [<- this] at e; omega
    ·exact hg e
  ·unfold Cf.end at a3; omega
 ·rintro ⟨hk, ⟨b1, b2⟩, b3⟩
  have hv := zbf hk
  have hg : s ∉ zaj m.Gl := hm.seg.disj _ hv
  refine ⟨⟨⟨?_, ?_⟩, ?_⟩, (hbar hk).2 b3⟩
  ·rw [Bool.eq_false_iff, ne_eq, h.gone]; exact hg
  ·by_cases ht : 0 <= s.t
   ·refine .inr ((h.pub s).2 (.inl ⟨_, hv, ?_⟩))
    exact (hm.seg.tier _ hv ht).resolve_left b1
   ·exact .inl ht
  ·unfold Cf.end; omega
end
section
variable {c : Cf} {ep : Int} {m : MS} {r : RM}
theorem wait_t (hm : MOk c ep m) {s : Sg} (hk : s ∈ zam m.L) (hst : (stL m.L s).st = 2) : 0 <= s.t /\ s.t < c.n := by
 have hv := zbf hk
 have hin := hm.seg.inr _ hv
 refine ⟨?_, hin.2.2.1⟩
 by_cases e : s.t = -1
 ·have := (hm.seg.raw _ hv e).1
  simp only at this
  omega
 ·have := hin.2.1
  simp only at this
  omega
theorem ready1_iff (hm : MOk c ep m) (h : TieR c m r) {Bs : List (Sg × Unit)} (hB : ∀ x, x ∈ zaj Bs ↔ ∃ k, k ∈ zam m.L /\ (stL m.L k).st = 2 /\ x ∈ hangL c k) {s : Sg} (hs : s ∈ zax r.c r.nums) : zdz r s (zax r.c r.nums) = true ↔ s ∈ zam m.L /\ rollB c Bs m.L m.now s = true := by
 obtain ⟨h1, h2, h3⟩ := h.there hs
 have hs' := hs
 unfold zdz headRoll rollB
 rw [h.hc, h.now] at *
 simp only [Bool.and_eq_true, Bool.not_eq_true', decide_eq_false_iff_not, List.all_eq_true, beq_eq_false_iff_ne, beq_iff_eq, decide_eq_true_eq, ne_eq, Option.isNone_iff_eq_none]
 constructor
 ·rintro ⟨⟨⟨⟨a1, a2⟩, a3⟩, a4⟩, a5⟩
  have h0 : 0 <= s.t := by omega
  obtain ⟨hk, hst⟩ := wt_stL hm.seg.nl ((h.wt hm (by rw [h.hc]; exact hs) h0).2 ⟨a2, a3⟩)
  refine ⟨hk, ⟨?_, hst⟩, by unfold Cf.end at a4; omega⟩
  rw [zcb, hB]
  rintro ⟨k, hkk, hks, hh⟩
  have hkt := wait_t hm hkk hks
  have hkseg : k ∈ zax c r.nums := by have := h.seg ⟨by omega, hkt.2⟩ hkk; rwa [h.hc] at this
  have hpg := (h.wt hm (by rw [h.hc]; exact hkseg) hkt.1).1 ⟨_, zbf hkk, hks⟩
  have := a5 k hkseg
  unfold bars1 at this
  rw [h.hc, (on_hang h0 h2).2 hh, hpg.1, decide_eq_true hkt.1] at this
  cases this
 ·rintro ⟨hk, ⟨b1, b2⟩, b3⟩
  have hst := wait_t hm hk b2
  have hpg := (h.wt hm (by rw [h.hc]; exact hs) hst.1).1 ⟨_, zbf hk, b2⟩
  refine ⟨⟨⟨⟨by omega, hpg.1⟩, hpg.2⟩, by unfold Cf.end; omega⟩, fun x hx => ?_⟩
  cases hbx : bars1 r s x with
  | false => rfl
  | true =>
   unfold bars1 at hbx
   simp only [Bool.and_eq_true, Bool.not_eq_true', decide_eq_true_eq] at hbx
   obtain ⟨⟨d1, d2⟩, d3⟩ := hbx
   rw [h.hc] at d1
   have hxg : memB x r.gone = false := by
    rw [Bool.eq_false_iff, ne_eq, h.gone]
    intro e
    rw [(h.pub x).2 (.inr ⟨d2, e⟩)] at d3; cases d3
   obtain ⟨xk, xst⟩ := wt_stL hm.seg.nl ((h.wt hm (by rw [h.hc]; exact hx) d2).2 ⟨d3, hxg⟩)
   rw [zcb, hB] at b1
   exact absurd ⟨x, xk, xst, (on_hang hst.1 h2).1 d1⟩ b1
end
section
variable {c : Cf} {ep : Int} {m : MS} {r : RM} {ns : List Nm}
theorem hang_num (hc : c.ok) (hf : c.fits) {k s : Sg} {x : Nm} (hx : 0 <= x.tm) (e : zar c k.t x = k) (hs : s ∈ hangL c k) : ∃ j : Nat, j < c.n /\ s.t = j /\ c.F j = k.t /\ zar c j x = s := by
 unfold hangL aboL at hs
 rw [List.map_map] at hs
 obtain ⟨j, hj, rfl⟩ := List.mem_map.1 hs
 obtain ⟨hj1, hj2⟩ := List.mem_filter.1 hj
 have hjn : j < c.n := by simpa using hj1
 have hF : c.F j = k.t := by simpa using hj2
 refine ⟨j, hjn, rfl, hF, ?_⟩
 have h1 := seg_up hc hf hx hjn
 rw [hF] at h1
 have e1 : x.ser = k.ser := congrArg Sg.ser e
 have e2 : x.tm / c.width k.t = k.win := congrArg Sg.win e
 show (⟨(j : Int), x.ser, x.tm / c.width j⟩ : Sg) = ⟨(j : Int), k.ser, k.win * c.width k.t / c.W j⟩
 rw [<- e2, h1, e1, width_nat]
theorem old_roll (hc : c.ok) (hf : c.fits) (hm : MOk c ep m) (hi : RInv c m ns) {Bs : List (Sg × Unit)} (hB : ∀ x, x ∈ zaj Bs ↔ ∃ k, k ∈ zam m.L /\ (stL m.L k).st = 2 /\ x ∈ hangL c k) {p : Jk × Tsk} (hp : p ∈ m.TL) (hr : p.2.rl = true) : rollB c Bs m.L m.now p.2.s = true := by
 have ho := hm.tasks p hp
 have hst := ho.roll hr
 have hcl := ho.clo
 unfold rollB
 have hno : zbm Bs p.2.s = none := by
  rw [zcb, hB]
  rintro ⟨k, hk, hks, hh⟩
  obtain ⟨x, hx, e⟩ := hi.has k hk
  obtain ⟨j, hj, hsj, hF, es⟩ := hang_num hc hf (hi.tm x hx).1 e hh
  refine (hi.tasks p hp).roll hr j hsj x hx (by rw [hsj]; exact es) ?_
  rw [hF, e]
  exact ⟨_, zbf hk, hks⟩
 rw [hno, hst]
 unfold Cf.clo at hcl
 simpa using hcl
theorem old_recl (hc : c.ok) (hf : c.fits) (hm : MOk c ep m) (hi : RInv c m ns) {p : Jk × Tsk} (hp : p ∈ m.TL) (hr : p.2.rl = false) : reclB c m.L m.now p.2.s = true := by
 have ho := hm.tasks p hp
 have hst := ho.recl hr
 obtain ⟨hov, hnw⟩ := (hi.tasks p hp).recl hr
 obtain ⟨x, hx, e⟩ := hi.has p.2.s ho.mem
 have hin := hm.seg.inr _ (zbf ho.mem)
 unfold reclB
 have hh : hangsB c m.L p.2.s = true := (hangs_iff hc hin).2 (fun y hy hys => by
  obtain ⟨j, hj, hsj, hF, es⟩ := hang_num hc hf (hi.tm x hx).1 e hy
  refine hnw x hx e j hj hF ?_
  rw [es]
  exact ⟨_, zbf (st_keys hys), hys⟩)
 rw [hh]
 simp only [Bool.and_true, Bool.and_eq_true, Bool.not_eq_true', beq_eq_false_iff_ne, ne_eq, decide_eq_true_eq]
 exact ⟨hst, hov⟩
end
theorem settle_all {c : Cf} {ep : Int} {m : MS} {r : RM} (hc : c.ok) (hf : c.fits) (hm : MOk c ep m) (h : TieR c m r) (ht : zcf m.TL m.QL r.tasks) {TL' : List (Jk × Tsk)} (hp : zev c m TL') : zcf TL' m.QL r.settled.tasks := by
 obtain ⟨Bs, hB, hn', hg⟩ := hp.get hm.nt
 have hold : ∀ (k : Jk) (x : Tsk), zbm m.TL k = some x -> k = x.key /\ x.s ∈ zam m.L /\ (x.rl = true -> rollB c Bs m.L m.now x.s = true) /\ (x.rl = false -> reclB c m.L m.now x.s = true) := fun k x hx => by
  have hp := zat hx
  exact ⟨(hm.tasks _ hp).key, (hm.tasks _ hp).mem, fun e => old_roll hc hf hm h.inv hB hp e, fun e => old_recl hc hf hm h.inv hp e⟩
 have hmem : ∀ k, k ∈ zaj TL' ↔ ∃ x, zbm TL' k = some x := fun k => by
  constructor
  ·intro hk
   obtain ⟨p, hp', rfl⟩ := List.mem_map.1 hk
   exact ⟨p.2, zcg hn' hp'⟩
  ·rintro ⟨x, hx⟩
   exact List.mem_map.2 ⟨_, zat hx, rfl⟩
 refine settle_same hc hf hm ht h.now hp (fun kind s hkd hs => ?_) (fun k hk => ?_)
 ·rw [hmem]
  rcases hkd with rfl | rfl
  ·have e : readyK r 1 s (zax r.c r.nums) = zdz r s (zax r.c r.nums) := by unfold readyK; rw [if_pos rfl]
   rw [e, ready1_iff hm h hB hs]
   constructor
   ·rintro ⟨a, b⟩
    cases hx : zbm m.TL ⟨1, s⟩ with
    | some x => exact ⟨x, (hg _ _).2 (.inl hx)⟩
    | none => exact ⟨_, (hg _ _).2 (.inr ⟨hx, s, a, .inl ⟨b, rfl, rfl⟩⟩)⟩
   ·rintro ⟨x, hx⟩
    rcases (hg _ _).1 hx with hx | ⟨-, s', a, ⟨b, e, -⟩ | ⟨b, e, -⟩⟩
    ·obtain ⟨o1, o2, o3, -⟩ := hold _ _ hx
     unfold Tsk.key Tsk.kd at o1
     injection o1 with o4 o5
     rw [o5]
     refine ⟨o2, o3 ?_⟩
     cases hr : x.rl with
     | true => rfl
     | false => rw [hr] at o4; simp at o4
    ·injection e with e1 e2
     rw [e2]; exact ⟨a, b⟩
    ·injection e with e1 e2
     omega
  ·have e : readyK r 2 s (zax r.c r.nums) = zdk r s (zax r.c r.nums) := by unfold readyK; rw [if_neg (by decide)]
   rw [e, ready2_iff hc hm h hs]
   constructor
   ·rintro ⟨a, b⟩
    cases hx : zbm m.TL ⟨2, s⟩ with
    | some x => exact ⟨x, (hg _ _).2 (.inl hx)⟩
    | none => exact ⟨_, (hg _ _).2 (.inr ⟨hx, s, a, .inr ⟨b, rfl, rfl⟩⟩)⟩
   ·rintro ⟨x, hx⟩
    rcases (hg _ _).1 hx with hx | ⟨-, s', a, ⟨b, e, -⟩ | ⟨b, e, -⟩⟩
    ·obtain ⟨o1, o2, -, o3⟩ := hold _ _ hx
     unfold Tsk.key Tsk.kd at o1
     injection o1 with o4 o5
     rw [o5]
     refine ⟨o2, o3 ?_⟩
     cases hr : x.rl with
     | false => rfl
     | true => rw [hr] at o4; simp at o4
    ·injection e with e1 e2
     omega
    ·injection e with e1 e2
     rw [e2]; exact ⟨a, b⟩
 ·obtain ⟨x, hx⟩ := (hmem k).1 hk
  have hs : k.s ∈ zam m.L := by
   rcases (hg _ _).1 hx with hx | ⟨-, s', a, ⟨b, e, -⟩ | ⟨b, e, -⟩⟩
   ·obtain ⟨o1, o2, -⟩ := hold _ _ hx
    rw [o1]; exact o2
   ·rw [e]; exact a
   ·rw [e]; exact a
  have hin := hm.seg.inr _ (zbf hs)
  exact h.seg ⟨hin.2.1, hin.2.2.1⟩ hs
theorem cellOf_isC (c : Cf) (s : Sg) (nums : List Nm) (hb : ∀ x ∈ nums, x.ok) (hl : nums.length <= 1000000000) : IsC (fun x => zar c s.t x = s) nums (zbs c s nums) := by
 have h : ∀ k, k <= nums.length -> IsC (fun x => zar c s.t x = s) (nums.take k) (zbs c s (nums.take k)) := by
  intro k
  induction k with
  | zero => intro _; simp only [List.take_zero]; exact IsC.zero (fun x hx => by cases hx)
  | succ k ih =>
   intro hk
   have hlt : k < nums.length := hk
   have ih := ih (Nat.le_of_lt hlt)
   have e : nums[k]? = some nums[k] := List.getElem?_eq_getElem hlt
   rw [cellOf_take c s nums k _ e, List.take_succ_eq_append_getElem hlt]
   unfold zdv
   by_cases hp : zar c s.t nums[k] = s
   ·rw [if_pos hp]
    have h1 := ih.add (x := nums[k]) hp
    have hbd := cellOf_bound (c := c) (s := s) (nums := nums.take k) (fun x hx => hb x (List.mem_of_mem_take hx))
    have e2 : addW (zbs c s (nums.take k)) nums[k].val = addCl (zbs c s (nums.take k)) nums[k].val := by
     unfold addW addCl
     have h2 := hb _ (List.getElem_mem hlt)
     unfold Nm.ok at h2
     have h3 : (nums.take k).length <= 1000000000 := by rw [List.length_take]; omega
     rw [show wrap64 ((zbs c s (nums.take k)).sum + nums[k].val) = (zbs c s (nums.take k)).sum + nums[k].val by unfold wrap64; omega]
    rw [<- e2]; exact h1
   ·rw [if_neg hp]; exact ih.skip hp
 have := h nums.length (Nat.le_refl _)
 simpa using this
theorem cntP_sub {P Q R : Nm -> Prop} [DecidablePred P] [DecidablePred Q] [DecidablePred R] : ∀ {ns : List Nm}, (∀ x ∈ ns, P x -> Q x \/ R x) -> zff P ns <= zff Q ns + zff R ns
 | [], _ => by simp [zff]
 | x :: ns, h => by
  have ih := cntP_sub (ns := ns) (fun y hy => h y (by simp [hy]))
  have h1 := h x (by simp)
  simp only [zff]
  by_cases p : P x
  ·rcases h1 p with q | q
   ·rw [if_pos p, if_pos q]; split <;> omega
   ·rw [if_pos p, if_pos q]; split <;> omega
  ·rw [if_neg p]; repeat' split
   all_goals omega
theorem cntP_all {P : Nm -> Prop} [DecidablePred P] : ∀ {ns : List Nm}, (∀ x ∈ ns, P x) -> zff P ns = ns.length
 | [], _ => rfl
 | x :: ns, h => by
  have ih := cntP_all (P := P) (ns := ns) (fun y hy => h y (by simp [hy]))
  simp only [zff, List.length_cons]
  rw [if_pos (h x (by simp)), ih]; omega
theorem full_to {ns : List Nm} (h : ∀ T : Nat, zff (fun x => x.tm = (T : Int)) ns <= 400) (h0 : ∀ x ∈ ns, 0 <= x.tm) : ∀ N : Nat, zff (fun x => x.tm < (N : Int)) ns <= 400 * N
 | 0 => by
  rw [zdt.2 (fun x hx e => by have := h0 x hx; omega)]; omega
 | N + 1 => by
  have ih := full_to h h0 N
  have h1 := h N
  have h2 : zff (fun x => x.tm < ((N + 1 : Nat) : Int)) ns <= zff (fun x => x.tm < (N : Int)) ns + zff (fun x => x.tm = (N : Int)) ns := cntP_sub (fun x _ e => by
   by_cases e1 : x.tm = (N : Int)
   ·exact .inr e1
   ·left; omega)
  omega
theorem segs_few {c : Cf} (hc : c.ok) {l : List Sg} (hn : l.Nodup) (h : ∀ k ∈ l, inR c k /\ serOk k) : l.length <= 2000020 := by
 have h1 := nodup_le (l.map sgNo) (List.range 2000020) ?_ ?_
 ·simpa using h1
 ·rw [List.nodup_iff_pairwise_ne, List.pairwise_map]
  refine (List.nodup_iff_pairwise_ne.1 hn).imp_of_mem ?_
  intro a b ha hb hne e
  exact hne (sgNo_inj (h a ha).1 (h a ha).2 (h b hb).1 (h b hb).2 e)
 ·intro x hx
  obtain ⟨s, hs, rfl⟩ := List.mem_map.1 hx
  exact List.mem_range.2 (sgNo_lt hc (h s hs).1 (h s hs).2)
structure zed (c : Cf) (ep : Int) (m : MS) (r : RM) : Prop where
 ok : c.ok
 fits : c.fits
 sok : SOk c ep m r.nums.length
 tie : TieR c m r
 tsk : zcf m.TL m.QL r.tasks
 slot : ∀ q ∈ m.QL, 0 <= q.2.slot
 picks : r.picks = m.num
 epo : r.epoch = ep
 ghas : ∀ s ∈ zaj m.Gl, ∃ x ∈ r.nums, zar c s.t x = s
 ng : r.gone.Nodup
 np : r.pub.Nodup
 full : ∀ T : Nat, zff (fun x => x.tm = (T : Int)) r.nums <= 400
 comp : PComp c m
section
variable {c : Cf} {ep : Int} {m : MS} {r : RM}
theorem zed.nums (h : zed c ep m r) : ∀ x ∈ r.nums, x.ok := fun x hx => by
 have h1 := h.tie.inv.tm x hx
 have h2 := h.sok.ok.now
 unfold Nm.ok; omega
theorem zed.len (h : zed c ep m r) : r.nums.length <= 100000000 := by
 have h1 := full_to h.full (fun x hx => (h.nums x hx).2.2.1) 100001
 rw [cntP_all (fun x hx => by have h2 := h.nums x hx; unfold Nm.ok at h2; omega)] at h1
 omega
theorem zed.glen (h : zed c ep m r) : r.gone.length <= 2000020 := segs_few h.ok h.ng (fun s hs => by
 have h1 := (h.tie.gone s).1 (memB_true hs)
 exact h.sok.gin s h1)
theorem zed.plen (h : zed c ep m r) : r.pub.length <= 2000020 := segs_few h.ok h.np (fun s hs => by
 rcases (h.tie.pub s).1 (memB_true hs) with ⟨v, hv, -⟩ | ⟨-, h1⟩
 ·exact ⟨h.sok.ok.seg.inr _ hv, h.sok.lin _ (key_of hv)⟩
 ·exact h.sok.gin s h1)
theorem zcf.len {TL : List (Jk × Tsk)} {QL : List (Tok × Lse)} {l : List Tk} (h : zcf TL QL l) : l.length = TL.length := by
 obtain ⟨ts, hp, -, rfl⟩ := h
 rw [List.length_map, hp.length_eq, List.length_map]
theorem zed.klen (h : zed c ep m r) : r.tasks.length <= 800 := by rw [h.tsk.len]; exact h.sok.ok.t800 h.ok
theorem zed.hokr (h : zed c ep m r) : r.c.ok := by rw [h.tie.hc]; exact h.ok
theorem zed.time (h : zed c ep m r) : 0 <= r.now /\ r.now <= 100000 := by rw [h.tie.now]; exact h.sok.ok.now
theorem zed.task (h : zed c ep m r) : ∀ x ∈ r.tasks, (0 <= x.tries /\ x.tries <= 1000000000) /\ (x.kind = 1 \/ x.kind = 2) /\ sgOk r.c x.s /\ 0 <= x.since /\ x.since <= r.now := fun x hx => by
 obtain ⟨p, hp, rfl⟩ := (h.tsk.mem x).1 hx
 have h1 := h.sok.ok.tasks p hp
 have h2 := h.sok.ok.now
 have h3 := h.sok.ok.mem_inR h1.mem
 have h4 := h1.tries
 refine ⟨by show 0 <= p.2.tries /\ p.2.tries <= 1000000000; omega, ?_, ?_, h1.since.1, by rw [h.tie.now]; exact h1.since.2⟩
 ·show p.2.kd = 1 \/ p.2.kd = 2
  unfold Tsk.kd; split
  ·exact .inl rfl
  ·exact .inr rfl
 ·rw [h.tie.hc]; exact h3.2
theorem zed.inGl (h : zed c ep m r) {s : Sg} : s ∈ r.gone ↔ s ∈ zaj m.Gl := by
 have := h.tie.gone s
 unfold memB at this; simpa using this
theorem zed.inPub (h : zed c ep m r) {s : Sg} : s ∈ r.pub ↔ Pub m.L s \/ (0 <= s.t /\ s ∈ zaj m.Gl) := by
 have := h.tie.pub s
 unfold memB at this; simpa using this
theorem zed.segs (h : zed c ep m r) (s : Sg) : s ∈ zax r.c r.nums ↔ s ∈ zam m.L \/ s ∈ zaj m.Gl := by
 constructor
 ·intro hs; exact (h.tie.there hs).2.2
 ·rintro (hs | hs)
  ·have hin := h.sok.ok.mem_inR hs
   exact h.tie.seg ⟨hin.2.1, hin.2.2.1⟩ hs
  ·have hin := (h.sok.gin s hs).1
   obtain ⟨x, hx, e⟩ := h.ghas s hs
   rw [h.tie.hc, mem_segsOf]
   exact ⟨hin.2.1, hin.2.2.1, x, hx, e.symm⟩
theorem zed.perm (h : zed c ep m r) : (zax r.c r.nums).Perm (zam m.L ++ zaj m.Gl) := by
 refine (List.perm_ext_iff_of_nodup (segsOf_nodup _ _) ?_).2 (fun s => by rw [h.segs, List.mem_append])
 rw [List.nodup_append]
 refine ⟨h.sok.ok.seg.nl, h.sok.ok.seg.ng, fun a ha b hb e => ?_⟩
 subst e
 exact h.sok.ok.seg.disj _ (zbf ha) hb
theorem zed.sum (h : zed c ep m r) (f : Sg -> Int) (g : SV -> Int) (e : Int) (h1 : ∀ p ∈ m.L, f p.1 = g p.2) (h2 : ∀ s ∈ zaj m.Gl, f s = e) : zcx ((zax r.c r.nums).map f) = zcx (m.L.map (fun p => g p.2)) + e * m.Gl.length := by
 rw [sumI_perm (h.perm.map f), List.map_append, sumI_append]
 congr 1
 ·unfold zam
  rw [List.map_map]
  exact congrArg zcx (List.map_congr_left (fun p hp => h1 p hp))
 ·have : ∀ l : List Sg, (∀ s ∈ l, f s = e) -> zcx (l.map f) = e * l.length := by
   intro l
   induction l with
   | nil => intro _; simp [zcx]
   | cons a l ih =>
    intro hl
    rw [List.map_cons, zcx, ih (fun s hs => hl s (by simp [hs])), hl a (by simp), List.length_cons]
    push_cast; rw [Int.mul_add]; omega
  rw [this _ h2]
  unfold zaj; rw [List.length_map]
theorem zed.raw (h : zed c ep m r) {p : Sg × SV} (hp : p ∈ m.L) (hst : p.2.st ≠ 2) : zbs r.c p.1 r.nums = p.2.cl := by
 have h1 := cellOf_isC r.c p.1 r.nums h.nums (by have := h.len; omega)
 have h2 := h.tie.inv.cell p hp hst
 rw [h.tie.hc] at h1 ⊢
 exact h1.one h2
theorem zed.used (h : zed c ep m r) : r.used = zby m.L := by
 unfold RM.used usedOf
 rw [sumI_foldl (useOf r.c r.nums r.gone), h.sum _ zfn 0 (fun p hp => ?_) (fun s hs => ?_)]
 ·unfold zby; omega
 ·have hng : ¬ p.1 ∈ r.gone := fun e => h.sok.ok.seg.disj p hp (h.inGl.1 e)
  unfold useOf zfn
  rw [if_neg hng]
  by_cases ht : p.1.t = -1
  ·have h1 := (h.sok.ok.seg.raw p hp ht).1
   rw [if_pos ht, if_pos h1, h.raw hp (by omega)]
  ·have hin := h.sok.ok.seg.inr p hp
   have h1 := h.sok.ok.seg.tier p hp (by have := hin.2.1; omega)
   rw [if_neg ht, if_neg (by omega)]
 ·unfold useOf
  rw [if_pos (h.inGl.2 hs)]
theorem zed.ubound (h : zed c ep m r) : 0 <= zby m.L /\ zby m.L <= 400 := h.sok.ok.seg.u0 h.ok
theorem zed.tight (h : zed c ep m r) : r.tight = tightB (zby m.L) c.qu := by
 unfold RM.tight tightB
 rw [h.used, h.tie.hc]
theorem sc_all (r : RM) : ∀ (l : List Sg) (a : Sc), l.foldl (stepSc r) a = ⟨a.held + zcx (l.map (fun s => if s ∈ r.gone then 0 else if s.t = -1 then 1 else 0)), a.wait + zcx (l.map (fun s => if s ∈ r.gone then 0 else if s.t = -1 then 0 else if s ∈ r.pub then 0 else 1)), a.pub + zcx (l.map (fun s => if s ∈ r.gone then 0 else if s.t = -1 then 0 else if s ∈ r.pub then 1 else 0)), a.gone + zcx (l.map (fun s => if s ∈ r.gone then 1 else 0))⟩
 | [], a => by simp [zcx]
 | s :: l, a => by
  rw [List.foldl_cons, sc_all r l]
  simp only [List.map_cons, zcx]
  unfold stepSc
  by_cases h1 : s ∈ r.gone
  ·simp only [if_pos h1]; congr 1 <;> omega
  ·by_cases h2 : s.t = -1
   ·simp only [if_neg h1, if_pos h2]; congr 1 <;> omega
   ·by_cases h3 : s ∈ r.pub
    ·simp only [if_neg h1, if_neg h2, if_pos h3]; congr 1 <;> omega
    ·simp only [if_neg h1, if_neg h2, if_neg h3]; congr 1 <;> omega
theorem zed.stats (h : zed c ep m r) : scOf r (zax r.c r.nums) = ⟨zcv m.L 1, zcv m.L 2, zcv m.L 3, m.Gl.length⟩ /\ r.used = zby m.L /\ r.tightI = zej (tightB (zby m.L) c.qu) := by
 have hk : ∀ p ∈ m.L, ¬ p.1 ∈ r.gone := fun p hp e => h.sok.ok.seg.disj p hp (h.inGl.1 e)
 have hpb : ∀ p ∈ m.L, p.1 ∈ r.pub ↔ p.2.st = 3 := fun p hp => by
  rw [h.inPub]
  constructor
  ·rintro (⟨v, hv, e⟩ | ⟨-, e⟩)
   ·rw [mem_one h.sok.ok.seg.nl hp hv]; exact e
   ·exact absurd e (h.sok.ok.seg.disj p hp)
  ·intro e; exact .inl ⟨p.2, hp, e⟩
 have hst : ∀ p ∈ m.L, (p.1.t = -1 /\ p.2.st = 1) \/ (¬ p.1.t = -1 /\ (p.2.st = 2 \/ p.2.st = 3)) := fun p hp => by
  have hin := h.sok.ok.seg.inr p hp
  by_cases ht : p.1.t = -1
  ·exact .inl ⟨ht, (h.sok.ok.seg.raw p hp ht).1⟩
  ·exact .inr ⟨ht, h.sok.ok.seg.tier p hp (by have := hin.2.1; omega)⟩
 have f1 : ∀ p ∈ m.L, (fun s : Sg => if s ∈ r.gone then (0 : Int) else if s.t = -1 then 1 else 0) p.1 = isSt 1 p.2 := fun p hp => by
  dsimp only
  rw [if_neg (hk p hp)]
  unfold isSt
  rcases hst p hp with ⟨a, b⟩ | ⟨a, b⟩
  ·rw [if_pos a, if_pos b]
  ·rw [if_neg a, if_neg (by omega)]
 have f2 : ∀ p ∈ m.L, (fun s : Sg => if s ∈ r.gone then (0 : Int) else if s.t = -1 then 0 else if s ∈ r.pub then 0 else 1) p.1 = isSt 2 p.2 := fun p hp => by
  dsimp only
  rw [if_neg (hk p hp)]
  unfold isSt
  rcases hst p hp with ⟨a, b⟩ | ⟨a, b⟩
  ·rw [if_pos a, if_neg (by omega)]
  ·rw [if_neg a]
   by_cases e : p.2.st = 3
   ·rw [if_pos ((hpb p hp).2 e), if_neg (by omega)]
   ·rw [if_neg (fun e' => e ((hpb p hp).1 e')), if_pos (by omega)]
 have f3 : ∀ p ∈ m.L, (fun s : Sg => if s ∈ r.gone then (0 : Int) else if s.t = -1 then 0 else if s ∈ r.pub then 1 else 0) p.1 = isSt 3 p.2 := fun p hp => by
  dsimp only
  rw [if_neg (hk p hp)]
  unfold isSt
  rcases hst p hp with ⟨a, b⟩ | ⟨a, b⟩
  ·rw [if_pos a, if_neg (by omega)]
  ·rw [if_neg a]
   by_cases e : p.2.st = 3
   ·rw [if_pos ((hpb p hp).2 e), if_pos e]
   ·rw [if_neg (fun e' => e ((hpb p hp).1 e')), if_neg e]
 have f4 : ∀ p ∈ m.L, (fun s : Sg => if s ∈ r.gone then (1 : Int) else 0) p.1 = (fun _ : SV => (0 : Int)) p.2 := fun p hp => by
  dsimp only
  rw [if_neg (hk p hp)]
 refine ⟨?_, h.used, ?_⟩
 ·unfold scOf
  rw [sc_all, h.sum _ (isSt 1) 0 f1 (fun s hs => by rw [if_pos (h.inGl.2 hs)]), h.sum _ (isSt 2) 0 f2 (fun s hs => by rw [if_pos (h.inGl.2 hs)]), h.sum _ (isSt 3) 0 f3 (fun s hs => by rw [if_pos (h.inGl.2 hs)]), h.sum _ (fun _ => 0) 1 f4 (fun s hs => by rw [if_pos (h.inGl.2 hs)])]
  have e4 : zcx (m.L.map (fun _ => (0 : Int))) = 0 := by
   generalize m.L = l
   induction l with
   | nil => rfl
   | cons a l ih => rw [List.map_cons, zcx, ih]; rfl
  rw [e4]
  unfold zcv
  dsimp only
  congr 1 <;> omega
 ·unfold RM.tightI zej
  rw [h.tight]
  cases tightB (zby m.L) c.qu <;> rfl
theorem zed.query (h : zed c ep m r) {t ser win : Int} (hb : ¬ (t < -1 \/ r.c.n <= t \/ ser < 0 \/ 4 <= ser \/ win < 0 \/ 100000 < win)) : r.query t ser win = zez c m.now m.Gl m.L t ser win := by
 have hend : r.c.end ⟨t, ser, win⟩ = (win + 1) * c.width t := by rw [h.tie.hc]; rfl
 have hla : r.c.la = c.la := by rw [h.tie.hc]
 by_cases ho : r.now - r.c.la < r.c.end ⟨t, ser, win⟩
 ·rw [query_open hb ho]
  unfold zez
  rw [hend, hla, h.tie.now] at ho
  rw [if_pos ho]; rfl
 ·have ho' := ho
  rw [hend, hla, h.tie.now] at ho'
  have hz := cnt_zero_iff (c := r.c) (nums := r.nums) (s := ⟨t, ser, win⟩) (by show -1 <= t; omega) (by show t < r.c.n; omega)
  unfold zez
  rw [if_neg ho']
  by_cases hs : (⟨t, ser, win⟩ : Sg) ∈ zax r.c r.nums
  ·have hnz : ¬ (zbs r.c ⟨t, ser, win⟩ r.nums).cnt = 0 := fun e => hz.1 e hs
   by_cases hg : (⟨t, ser, win⟩ : Sg) ∈ zaj m.Gl
   ·rw [query_gone hb ho hnz (h.inGl.2 hg)]
    unfold zeb; rw [stG_gone hg]; rfl
   ·have hk := ((h.segs _).1 hs).resolve_right hg
    have hng : ¬ (⟨t, ser, win⟩ : Sg) ∈ r.gone := fun e => hg (h.inGl.1 e)
    have hmem := zbf hk
    rw [stG_live hg]
    have hp : (⟨t, ser, win⟩ : Sg) ∈ r.pub ↔ (stL m.L ⟨t, ser, win⟩).st = 3 := by
     rw [h.inPub]
     constructor
     ·rintro (⟨v, hv, e⟩ | ⟨-, e⟩)
      ·rw [mem_one h.sok.ok.seg.nl hmem hv]; exact e
      ·exact absurd e hg
     ·intro e; exact .inl ⟨_, hmem, e⟩
    by_cases ht : t = -1
    ·have h1 := (h.sok.ok.seg.raw _ hmem ht).1
     dsimp only at h1
     have hc := h.raw hmem (by dsimp only; omega)
     dsimp only at hc
     rw [query_ok hb ho hnz hng (by omega), hc]
     unfold zeb; rw [h1]; rfl
    ·rcases h.sok.ok.seg.tier _ hmem (by show 0 <= t; omega) with h1 | h1
     ·dsimp only at h1
      rw [query_wait hb ho hnz hng ⟨by omega, fun e => by have := hp.1 e; omega⟩]
      unfold zeb; rw [h1]; rfl
     ·dsimp only at h1
      have hc := h.raw hmem (by dsimp only; omega)
      dsimp only at hc
      rw [query_ok hb ho hnz hng (fun e => e.2 (hp.2 h1)), hc]
      unfold zeb; rw [h1]; rfl
  ·rw [query_empty hb ho (hz.2 hs)]
   have h1 : (⟨t, ser, win⟩ : Sg) ∉ zaj m.Gl := fun e => hs ((h.segs _).2 (.inr e))
   have h2 : (⟨t, ser, win⟩ : Sg) ∉ zam m.L := fun e => hs ((h.segs _).2 (.inl e))
   rw [stG_live h1]
   have : stL m.L ⟨t, ser, win⟩ = ⟨0, zds⟩ := by unfold stL; rw [zfg.2 h2]; rfl
   rw [this]; rfl
end
def zcq (c : Cf) (m : MS) (ser tm val : Int) : MS × Int :=
 if ser < 0 \/ 4 <= ser then (m, 2)
 else if tm < 0 \/ m.now < tm then (m, 5)
 else if tm < m.now - c.la then (m, 3)
 else if c.qu < zby m.L + (1 + 2 * zeq c m.L ⟨ser, tm, val⟩ c.n) then (m, 4)
 else ({ m with L := addL c m.L ⟨ser, tm, val⟩ }, 0)
theorem fold_postR {now : Int} : ∀ (ys : List Sg) {T : List (Jk × Tsk)}, (∀ s ∈ ys, (⟨1, s⟩ : Jk) ∈ zaj T) -> ys.foldl (zeg now) T = T
 | [], T, _ => rfl
 | y :: ys, T, h => by
  have e : zeg now T y = T := by
   unfold zeg
   cases hg : zbm T ⟨1, y⟩ with
   | some x => rfl
   | none => exact absurd (h y (by simp)) (zcb.1 hg)
  rw [List.foldl_cons, e]; exact fold_postR ys (fun s hs => h s (by simp [hs]))
theorem fold_postC {now : Int} : ∀ (ys : List Sg) {T : List (Jk × Tsk)}, (∀ s ∈ ys, (⟨2, s⟩ : Jk) ∈ zaj T) -> ys.foldl (zfj now) T = T
 | [], T, _ => rfl
 | y :: ys, T, h => by
  have e : zfj now T y = T := by
   unfold zfj
   cases hg : zbm T ⟨2, y⟩ with
   | some x => rfl
   | none => exact absurd (h y (by simp)) (zcb.1 hg)
  rw [List.foldl_cons, e]; exact fold_postC ys (fun s hs => h s (by simp [hs]))
section
variable {c : Cf} {ep : Int} {m : MS} {r : RM}
theorem PComp.posted (h : PComp c m) : zev c m m.TL := by
 obtain ⟨Bs, hB, h1, h2⟩ := h
 refine ⟨⟨Bs, (zam m.L).filter (fun s => rollB c Bs m.L m.now s), (zam m.L).filter (fun s => reclB c m.L m.now s), hB, fun s => List.mem_filter, fun s => List.mem_filter, ?_⟩⟩
 rw [fold_postR _ (fun s hs => h1 s (List.mem_filter.1 hs).1 (List.mem_filter.1 hs).2), fold_postC _ (fun s hs => h2 s (List.mem_filter.1 hs).1 (List.mem_filter.1 hs).2)]
theorem keys_unit (l : List Sg) : zaj (l.map (fun s => (s, ()))) = l := by
 unfold zaj
 rw [List.map_map]
 simp [Function.comp_def]
theorem PComp.added (hc : c.ok) (hf : c.fits) {x : Nm} (hm : MOk c ep m) (hm' : MOk c ep { m with L := addL c m.L x }) (h : PComp c m) (hl : m.now - c.la <= x.tm) : PComp c { m with L := addL c m.L x } := by
 obtain ⟨Bs, hB, h1, h2⟩ := h
 have hn1 := hc.n1
 have hnl' : (zam (addL c m.L x)).Nodup := hm'.seg.nl
 have hclo : ∀ s, s ∈ zam (addL c m.L x) -> c.clo m.now s -> s ∈ zam m.L /\ stL (addL c m.L x) s = stL m.L s := fun s hs hcl => by
  have hp := zbf hs
  rcases addL_mem hp with e | ⟨e, -⟩ | ⟨j, hj, e, -⟩
  ·exfalso
   injection e with e1 e2
   refine seg_open hc (t := -1) (x := x) (by omega) (by omega) hl ?_
   rw [show zar c (-1) x = s from e1.symm]; exact hcl
  ·exact ⟨key_of e, mem_one hm.seg.nl e (zbf (key_of e))⟩
  ·exfalso
   injection e with e1 e2
   refine seg_open hc (t := (j : Int)) (x := x) (by omega) (by omega) hl ?_
   rw [<- e1]; exact hcl
 have hw : ∀ k, k ∈ zam m.L -> (stL m.L k).st = 2 -> k ∈ zam (addL c m.L x) /\ (stL (addL c m.L x) k).st = 2 := fun k hk hst => by
  have hp := zbf hk
  have hne : k ≠ zbx c x := fun e => by
   have := (hm.seg.raw _ hp (by rw [e]; rfl)).1
   dsimp only at this; omega
  have h3 := addL_old (c := c) (x := x) hp hne
  have hk' := key_of h3
  refine ⟨hk', ?_⟩
  rw [mem_one hnl' (zbf hk') h3]; exact hst
 refine ⟨((((zam (addL c m.L x)).filter (fun k => decide ((stL (addL c m.L x) k).st = 2))).flatMap (hangL c)).map (fun s => (s, ()))), fun y => ?_, fun s hs hr => ?_, fun s hs hr => ?_⟩
 ·rw [keys_unit, List.mem_flatMap]
  constructor
  ·rintro ⟨k, hk, hy⟩
   obtain ⟨h3, h4⟩ := List.mem_filter.1 hk
   exact ⟨k, h3, of_decide_eq_true h4, hy⟩
  ·rintro ⟨k, h3, h4, hy⟩
   exact ⟨k, List.mem_filter.2 ⟨h3, decide_eq_true h4⟩, hy⟩
 ·obtain ⟨hcl, hst⟩ := roll_clo hr
  obtain ⟨hk, he⟩ := hclo s hs hcl
  refine h1 s hk ?_
  have hnb : s ∉ zaj Bs := fun hb => by
   obtain ⟨k, k1, k2, k3⟩ := (hB s).1 hb
   obtain ⟨k4, k5⟩ := hw k k1 k2
   unfold rollB at hr
   cases hg : zbm ((((zam (addL c m.L x)).filter (fun k => decide ((stL (addL c m.L x) k).st = 2))).flatMap (hangL c)).map (fun s => (s, ()))) s with
   | some u => rw [hg] at hr; simp at hr
   | none =>
    refine zcb.1 hg ?_
    rw [keys_unit]
    exact List.mem_flatMap.2 ⟨k, List.mem_filter.2 ⟨k4, decide_eq_true k5⟩, k3⟩
  unfold rollB
  dsimp only at he hst
  rw [he] at hst
  rw [zcb.2 hnb, hst]
  unfold Cf.clo at hcl
  simpa using hcl
 ·obtain ⟨hcl, hst⟩ := recl_clo hc hf hm'.seg hs hr
  obtain ⟨hk, he⟩ := hclo s hs hcl
  refine h2 s hk ?_
  unfold reclB at hr ⊢
  simp only [Bool.and_eq_true] at hr ⊢
  rw [he] at hr
  refine ⟨hr.1, ?_⟩
  have hin := hm.mem_inR hk
  rw [hangs_iff hc hin]
  have h5 := (hangs_iff hc hin).1 hr.2
  exact fun y hy e => h5 y hy (hw y (st_keys e) e).2
theorem cnt_keys {α : Type} [DecidableEq α] (f : Nm -> α) (ns : List Nm) : ∀ ks : List α, zff (fun x => f x ∈ ks) ns <= zcx (ks.map (fun k => zff (fun x => f x = k) ns))
 | [] => by
  rw [zdt.2 (fun x _ h => by cases h)]; simp [zcx]
 | k :: ks => by
  have ih := cnt_keys f ns ks
  rw [List.map_cons, zcx]
  refine Int.le_trans (cntP_sub (Q := fun x => f x = k) (R := fun x => f x ∈ ks) (fun x _ h => by simpa using h)) ?_
  omega
theorem sumI_le0 : ∀ (l : List Int), (∀ x ∈ l, 0 <= x) -> 0 <= zcx l
 | [], _ => by simp [zcx]
 | a :: l, h => by
  have h1 := h a (by simp)
  have h2 := sumI_le0 l (fun x hx => h x (by simp [hx]))
  simp only [zcx]; omega
theorem full_one (hc : c.ok) (hm : MOk c ep m) {ns : List Nm} (hi : RInv c m ns) {T : Int} (hl : m.now - c.la <= T) : zff (fun x => x.tm = T) ns <= 400 := by
 have hn1 := hc.n1
 have h1 : zff (fun x => x.tm = T) ns <= zff (fun x => zbx c x ∈ zam m.L) ns + zff (fun _ => False) ns := cntP_sub (fun x hx e => .inl (by
  rcases hi.keys x hx (-1) (by omega) (by omega) with h | h
  ·exact h
  ·exact absurd h (open_not_gone hc hm (x := x) (by omega) (by omega) (by omega))))
 rw [show zff (fun _ => False) ns = 0 from zdt.2 (fun _ _ h => h)] at h1
 have h2 := cnt_keys (zbx c) ns (zam m.L)
 have h3 : zcx ((zam m.L).map (fun k => zff (fun x => zbx c x = k) ns)) = heldL m.L := by
  unfold zam heldL
  rw [List.map_map]
  refine congrArg zcx (List.map_congr_left (fun p hp => ?_))
  dsimp only [Function.comp]
  unfold heldV1
  by_cases ht : p.1.t = -1
  ·have hr := (hm.seg.raw p hp ht).1
   rw [if_pos hr, (hi.cell p hp (by omega)).cnt]
   refine (cntP_congr (fun x _ => ?_)).1
   rw [ht]; exact Iff.rfl
  ·have hin := hm.seg.inr p hp
   have hr := hm.seg.tier p hp (by have := hin.2.1; omega)
   rw [if_neg (by omega)]
   exact zdt.2 (fun x _ e => ht (by rw [<- e]; rfl))
 have h4 := used_parts m.L hm.seg.sts
 have h5 := hm.seg.used
 have h6 := hc.qu
 have h7 : ∀ k, 0 <= zcv m.L k := fun k => by
  unfold zcv
  refine sumI_le0 _ (fun x hx => ?_)
  obtain ⟨p, -, rfl⟩ := List.mem_map.1 hx
  unfold isSt; split <;> omega
 have := h7 2
 have := h7 3
 omega
theorem zed.cost (h : zed c ep m r) {x : Nm} (hl : m.now - c.la <= x.tm) : ∀ k : Nat, k <= c.n -> zew r (zax r.c r.nums) x k = zby m.L + 1 + 2 * zeq c m.L x k
 | 0, _ => by
  have := h.used
  simp [zew, zeq, this]
 | k + 1, hk => by
  have ih := h.cost hl k (by omega)
  have hng : zar c (k : Int) x ∉ zaj m.Gl := open_not_gone h.ok h.sok.ok hl (by omega) (by omega)
  have hcc := h.tie.hc
  by_cases hs : zar r.c (k : Int) x ∈ zax r.c r.nums
  ·have hk2 : zar c (k : Int) x ∈ zam m.L := by
    have := (h.segs _).1 hs
    rw [hcc] at this
    exact this.resolve_right hng
   rw [cost_in hs, ih]; simp [zeq, hk2]
  ·have hk2 : ¬ zar c (k : Int) x ∈ zam m.L := fun e => hs ((h.segs _).2 (.inl (by rw [hcc]; exact e)))
   rw [cost_out hs, ih]; simp only [zeq, if_neg hk2]; omega
theorem zed.ingest (h : zed c ep m r) (ser tm val : Int) (hval : -2147483648 <= val /\ val <= 2147483647) : (r.ingest ser tm val).2 = (zcq c m ser tm val).2 /\ zed c ep (zcq c m ser tm val).1 (r.ingest ser tm val).1 := by
 have hnow := h.tie.now
 have hcc := h.tie.hc
 by_cases p1 : ser < 0 \/ 4 <= ser
 ·rw [ingest_arg p1, show zcq c m ser tm val = (m, 2) from by unfold zcq; rw [if_pos p1]]
  exact ⟨rfl, h⟩
 by_cases p2 : tm < 0 \/ m.now < tm
 ·rw [ingest_time p1 (by rw [hnow]; exact p2), show zcq c m ser tm val = (m, 5) from by unfold zcq; rw [if_neg p1, if_pos p2]]
  exact ⟨rfl, h⟩
 by_cases p3 : tm < m.now - c.la
 ·rw [ingest_late p1 (by rw [hnow]; exact p2) (by rw [hnow, hcc]; exact p3), show zcq c m ser tm val = (m, 3) from by unfold zcq; rw [if_neg p1, if_neg p2, if_pos p3]]
  exact ⟨rfl, h⟩
 have hl : m.now - c.la <= (⟨ser, tm, val⟩ : Nm).tm := by show m.now - c.la <= tm; omega
 have hco := h.cost hl c.n (Nat.le_refl _)
 by_cases p4 : c.qu < zby m.L + (1 + 2 * zeq c m.L ⟨ser, tm, val⟩ c.n)
 ·rw [ingest_full p1 (by rw [hnow]; exact p2) (by rw [hnow, hcc]; exact p3) (by rw [hcc] at hco ⊢; rw [hco]; omega), show zcq c m ser tm val = (m, 4) from by unfold zcq; rw [if_neg p1, if_neg p2, if_neg p3, if_pos p4]]
  exact ⟨rfl, h⟩
 rw [ingest_ok p1 (by rw [hnow]; exact p2) (by rw [hnow, hcc]; exact p3) (by rw [hcc] at hco ⊢; rw [hco]; omega), show zcq c m ser tm val = ({ m with L := addL c m.L ⟨ser, tm, val⟩ }, 0) from by unfold zcq; rw [if_neg p1, if_neg p2, if_neg p3, if_neg p4]]
 have ha : Act1 c ep m r.nums { m with L := addL c m.L ⟨ser, tm, val⟩ } (r.nums ++ [⟨ser, tm, val⟩]) := .added m r.nums ⟨ser, tm, val⟩ ⟨by show 0 <= ser; omega, by show ser < 4; omega⟩ ⟨by show 0 <= tm; omega, by show tm <= m.now; omega⟩ hl hval (by omega)
 have hs' := ha.ok h.ok h.fits h.sok
 have hi' := h.tie.inv.act h.ok h.fits h.sok (by have := h.len; omega) ha
 have hP' := h.comp.added h.ok h.fits h.sok.ok hs'.ok hl
 have hmr := h.sok.ok.seg
 have ht' : TieR c { m with L := addL c m.L ⟨ser, tm, val⟩ } { r with nums := r.nums ++ [⟨ser, tm, val⟩] } := by
  refine ⟨hcc, hnow, h.tie.gone, fun s => ?_, hi'⟩
  rw [h.tie.pub s]
  refine or_congr ⟨fun ⟨v, hv, h3⟩ => ⟨v, addL_old hv (fun e => ?_), h3⟩, fun ⟨v, hv, h3⟩ => ?_⟩ Iff.rfl
  ·have h4 := (hmr.raw _ hv (by rw [show s = zbx c ⟨ser, tm, val⟩ from e]; rfl)).1
   dsimp only at h4; omega
  ·rcases addL_mem hv with e | ⟨e, -⟩ | ⟨j, hj, e, -⟩
   ·injection e with e1 e2; rw [e2] at h3; simp at h3
   ·exact ⟨v, e, h3⟩
   ·injection e with e1 e2; rw [e2] at h3; simp at h3
 have hts := settle_all h.ok h.fits hs'.ok ht' h.tsk hP'.posted
 refine ⟨rfl, ⟨h.ok, h.fits, hs', ⟨ht'.hc, ht'.now, ht'.gone, ht'.pub, ht'.inv⟩, hts, h.slot, h.picks, h.epo, fun s hs => ?_, h.ng, h.np, fun T => ?_, hP'⟩⟩
 ·obtain ⟨x, hx, e⟩ := h.ghas s hs
  exact ⟨x, List.mem_append_left _ hx, e⟩
 ·show zff (fun x => x.tm = (T : Int)) (r.nums ++ [⟨ser, tm, val⟩]) <= 400
  by_cases e : tm = (T : Int)
  ·exact full_one h.ok hs'.ok hi' (by show m.now - c.la <= _; omega)
  ·rw [(cntP_snoc _ _).1, if_neg e]
   have := h.full T
   omega
end
structure ExpF (n : Int) (TL : List (Jk × Tsk)) (QL : List (Tok × Lse)) (T1 : List (Jk × Tsk)) (Q1 : List (Tok × Lse)) (D : List Jk) : Prop where
 tl : T1 = TL.map (fun p => if p.1 ∈ D then (p.1, p.2.failed n) else p)
 sub : ∀ q ∈ Q1, q ∈ QL
 out : ∀ q ∈ QL, q ∈ Q1 \/ (q.2.job ∈ D /\ q.2.til <= n)
 inn : ∀ q ∈ Q1, q.2.job ∉ D
 has : ∀ k ∈ D, ∃ q ∈ QL, q.2.job = k
 nq : (zaj Q1).Nodup
 jobs : (Q1.map (fun q => q.2.job)).Nodup
theorem exps_form {n : Int} {TL : List (Jk × Tsk)} {QL : List (Tok × Lse)} (nt : (zaj TL).Nodup) (nq : (zaj QL).Nodup) (jobs : (QL.map (fun q => q.2.job)).Nodup) {T1 : List (Jk × Tsk)} {Q1 : List (Tok × Lse)} (h : Exps n TL QL T1 Q1) : ∃ D, ExpF n TL QL T1 Q1 D := by
 induction h with
 | nil => exact ⟨[], by simp, fun q h => h, fun q h => .inl h, fun q _ => by simp, fun k hk => (by cases hk), nq, jobs⟩
 | @step T1 Q1 t g x _ hg hgt hx ih =>
  obtain ⟨D, i1, i2, i3, i4, i5, i6, i7⟩ := ih
  have hgm := zat hg
  have hkD : g.job ∉ D := i4 _ hgm
  have hx' : zbm T1 g.job = some x := hx
  have hxm := zat hx'
  have hxo : (g.job, x) ∈ TL := by
   rw [i1] at hxm
   obtain ⟨p, hp, e⟩ := List.mem_map.1 hxm
   by_cases hd : p.1 ∈ D
   ·rw [if_pos hd] at e
    injection e with e1 e2
    exact absurd (e1 ▸ hd) hkD
   ·rw [if_neg hd] at e
    rw [<- e]; exact hp
  refine ⟨g.job :: D, ?_, fun q hq => i2 q (zbh.1 hq).1, fun q hq => ?_, fun q hq => ?_, fun k hk => ?_, zdj i6, jobs_del i7 _⟩
  ·show zer T1 g.job (x.failed n) = _
   unfold zer
   rw [if_pos (show g.job ∈ zaj T1 from List.mem_map.2 ⟨_, hxm, rfl⟩), i1, List.map_map]
   refine List.map_congr_left (fun p hp => ?_)
   dsimp only [Function.comp]
   by_cases hd : p.1 ∈ D
   ·have hne : ¬ p.1 = g.job := fun e => hkD (e ▸ hd)
    simp [hd, hne]
   ·by_cases e : p.1 = g.job
    ·have h1 : zbm TL p.1 = some p.2 := zcg nt hp
     have h2 : zbm TL g.job = some x := zcg nt hxo
     rw [e, h2] at h1
     injection h1 with h1
     have hp2 : p = (g.job, x) := Prod.ext e h1.symm
     subst hp2
     simp [hkD]
    ·simp [hd, e]
  ·rcases i3 q hq with h1 | ⟨h1, h2⟩
   ·by_cases e : q.1 = t
    ·have h4 : zbm Q1 q.1 = some q.2 := zcg i6 h1
     rw [e, hg] at h4
     injection h4 with h4
     exact .inr ⟨by rw [<- h4]; simp, by rw [<- h4]; exact hgt⟩
    ·exact .inl (zbh.2 ⟨h1, e⟩)
   ·exact .inr ⟨List.mem_cons_of_mem _ h1, h2⟩
  ·intro hd
   rcases List.mem_cons.1 hd with e | hd
   ·exact job_other i7 hgm hq e
   ·exact i4 q (zbh.1 hq).1 hd
  ·rcases List.mem_cons.1 hk with rfl | hk
   ·exact ⟨_, i2 _ hgm, rfl⟩
   ·exact i5 k hk
theorem zcf.expired {n : Int} {TL T1 : List (Jk × Tsk)} {QL Q1 : List (Tok × Lse)} {D : List Jk} {l : List Tk} (hk : ∀ p ∈ TL, p.1 = p.2.key) (hslot : ∀ q ∈ QL, 0 <= q.2.slot) (h : zcf TL QL l) (he : ExpF n TL QL T1 Q1 D) (hq : ∀ p ∈ Q1, n < p.2.til) : zcf T1 Q1 (l.map (expT n)) := by
 obtain ⟨ts, hpm, hs, rfl⟩ := h
 refine ⟨ts.map (fun z => if z.key ∈ D then z.failed n else z), ?_, ?_, ?_⟩
 ·have e : T1.map (·.2) = (TL.map (·.2)).map (fun z => if z.key ∈ D then z.failed n else z) := by
   rw [he.tl, List.map_map, List.map_map]
   refine List.map_congr_left (fun p hp => ?_)
   dsimp only [Function.comp]
   rw [<- hk p hp]
   split <;> rfl
  rw [e]; exact hpm.map _
 ·rw [List.pairwise_map]
  refine hs.imp (fun {a b} h => ?_)
  have hf : ∀ z : Tsk, (if z.key ∈ D then z.failed n else z).kd = z.kd /\ (if z.key ∈ D then z.failed n else z).s = z.s := fun z => by split <;> exact ⟨rfl, rfl⟩
  have ha := hf a
  have hb := hf b
  rw [byKeyV_lt] at h ⊢
  rw [ha.1, ha.2, hb.1, hb.2]
  exact h
 ·rw [List.map_map, List.map_map]
  refine List.map_congr_left (fun z hz => ?_)
  dsimp only [Function.comp]
  rcases jobO_cases QL z with ⟨q, hqm, hkz, e⟩ | ⟨hn, e⟩
  ·rcases he.out q hqm with h1 | ⟨h1, h2⟩
   ·have hd : z.key ∉ D := hkz ▸ he.inn q h1
    rw [if_neg hd]
    have e2 : jobO Q1 z = (q.1, q.2.slot, q.2.til) := jobO_some he.jobs h1 hkz
    have e3 : tkOf QL z = tkOf Q1 z := tkOf_congr (e.trans e2.symm)
    rw [e3]
    unfold expT
    rw [if_neg]
    rintro ⟨-, h4⟩
    have h5 : (tkOf Q1 z).till = q.2.til := by show (jobO Q1 z).2.2 = _; rw [e2]
    have := hq q h1
    omega
   ·have hd : z.key ∈ D := hkz ▸ h1
    rw [if_pos hd]
    have hno : jobO Q1 (z.failed n) = (⟨0, 0⟩, -1, 0) := jobO_none (fun q' hq' e' => he.inn q' hq' (by rw [show q'.2.job = z.key from e']; exact hd))
    unfold expT
    rw [if_pos]
    ·unfold Tk.fail tkOf
     rw [hno]
     rfl
    ·have h5 : (tkOf QL z).till = q.2.til := by show (jobO QL z).2.2 = _; rw [e]
     have h6 : (tkOf QL z).slot = q.2.slot := by show (jobO QL z).2.1 = _; rw [e]
     have := hslot q hqm
     omega
  ·have hd : z.key ∉ D := fun hd => by
    obtain ⟨q, h1, h2⟩ := he.has _ hd
    exact hn q h1 h2
   rw [if_neg hd]
   have e2 : jobO Q1 z = (⟨0, 0⟩, -1, 0) := jobO_none (fun q' hq' e' => hn q' (he.sub q' hq') e')
   rw [tkOf_congr (e.trans e2.symm)]
   unfold expT
   rw [if_neg]
   rintro ⟨h4, -⟩
   have h5 : (tkOf Q1 z).slot = -1 := by show (jobO Q1 z).2.1 = _; rw [e2]
   omega
section
variable {c : Cf} {ep : Int} {m : MS} {r : RM}
theorem zed.tick_bad (h : zed c ep m r) {n : Int} (hb : n < 1 \/ 1000 < n \/ 100000 < m.now + n) : r.tickL n = (r, 5) := tickL_bad (by rw [h.tie.now]; exact hb)
theorem zed.tick (h : zed c ep m r) {n : Int} (hn : 1 <= n /\ n <= 1000) (hnow : m.now + n <= 100000) {TL1 TL' : List (Jk × Tsk)} {QL1 : List (Tok × Lse)} (he : Exps (m.now + n) m.TL m.QL TL1 QL1) (hq : ∀ p ∈ QL1, m.now + n < p.2.til) (hp : zev c { m with now := m.now + n, TL := TL1, QL := QL1 } TL') : (r.tickL n).2 = 0 /\ zed c ep { m with now := m.now + n, TL := TL', QL := QL1 } (r.tickL n).1 := by
 have hE : r.tickL n = ({ r with now := r.now + n, tasks := r.tasks.map (expT (r.now + n)) }.settled, 0) := tickL_ok (by rw [h.tie.now]; omega)
 rw [hE]
 refine ⟨rfl, ?_⟩
 have hm0 := h.sok.ok.exps (n' := m.now + n) ⟨by omega, hnow⟩ he hq
 obtain ⟨D, hD⟩ := exps_form h.sok.ok.nt h.sok.ok.nq h.sok.ok.jobs he
 have hi0 : RInv c { m with now := m.now + n, TL := TL1, QL := QL1 } r.nums := h.tie.inv.ticked (by omega) (exps_mem he) m.num
 have ht0 : TieR c { m with now := m.now + n, TL := TL1, QL := QL1 } { r with now := r.now + n, tasks := r.tasks.map (expT (r.now + n)) } := ⟨h.tie.hc, by show r.now + n = m.now + n; rw [h.tie.now], h.tie.gone, h.tie.pub, hi0⟩
 have hk0 : zcf TL1 QL1 (r.tasks.map (expT (r.now + n))) := by
  rw [h.tie.now]
  exact h.tsk.expired (fun p hp => (h.sok.ok.tasks p hp).key) h.slot hD hq
 have hts := settle_all h.ok h.fits hm0 ht0 hk0 hp
 have ha : Act1 c ep m r.nums { m with now := m.now + n, TL := TL', QL := QL1 } r.nums := .ticked m r.nums n TL1 TL' QL1 hn.1 hnow he hq hp
 refine ⟨h.ok, h.fits, ha.ok h.ok h.fits h.sok, ⟨ht0.hc, ht0.now, ht0.gone, ht0.pub, h.tie.inv.act h.ok h.fits h.sok (by have := h.len; omega) ha⟩, hts, fun q hq' => h.slot q (hD.sub q hq'), h.picks, h.epo, h.ghas, h.ng, h.np, h.full, PComp.of hp⟩
end
end Go.Proofs.YtpbimdkclnekeaaGreat
