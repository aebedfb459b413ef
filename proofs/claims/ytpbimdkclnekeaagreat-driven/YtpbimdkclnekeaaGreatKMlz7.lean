import Derived.Test.YtpbimdkclnekeaaGreatKTel0
import Derived.Test.YtpbimdkclnekeaaGreatKMlz4
import Derived.Test.YtpbimdkclnekeaaGreatKMlz6

namespace Go.Proofs.YtpbimdkclnekeaaGreat
open Value (int)
open IntKind (i64)
open Go.RowKit Go.Maps Go.Shelf
open Go.ChangeMaps (setBlock)
set_option linter.unusedVariables false
def zdq (v : SV) : Cl × Int := if v.st = 0 then (zdn, 10) else if v.st = 2 then (zdn, 11) else if v.st = 4 then (zdn, 12) else (v.cl, 0)
def zct (c : Cf) (now : Int) (Gl : List (Sg × Unit)) (L : LV) (t ser win : Int) : Cl × Int :=
 if now - c.la < (win + 1) * c.width t then (zdn, 9) else zdq (stG Gl L ⟨t, ser, win⟩)
set_option maxRecDepth 20000 in
set_option maxHeartbeats 8000000 in
theorem mquery_any {w : World} {i : Ids} {c : Cf} {ep : Int} {m : MS} (h : zat w i c ep m) (hc : c.ok) (hnow : 0 <= m.now /\ m.now <= 100000) (t ser win : Int) (ht : -1 <= t /\ t < c.n) (hser : 0 <= ser /\ ser < 4) (hwin : 0 <= win /\ win <= 100000) :
  Calls Tryz.prog 60 #[.pointer (some ⟨i.x, 0, none⟩), int i64 t, int i64 ser, int i64 win] w fun e w' => e = .returned (.tuple #[.agg #[int i64 (zct c m.now m.Gl m.L t ser win).1.cnt, int i64 (zct c m.now m.Gl m.L t ser win).1.sum, .int .i32 (zct c m.now m.Gl m.L t ser win).1.mn, .int .i32 (zct c m.now m.Gl m.L t ser win).1.mx], int i64 (zct c m.now m.Gl m.L t ser win).2]) /\ Below w.heap.size w w' := by
 obtain ⟨a, cap, htv, hts⟩ := h.ts
 have hxl := h.lt
 have hb0 : Below w.heap.size w (w.alloc (.cells #[int i64 0, int i64 0, .int .i32 0, .int .i32 0] 114)) := (Below.refl _ _).alloc (Nat.le_refl _) _
 obtain ⟨c0, c1, c2, c3, c4, c5, c6, -, c8, c9, -⟩ := (h.later hb0).cells
 rw [htv] at c6
 have HB0 := zac hb0
 have HL0 := zac (zag w (.cells #[int i64 0, int i64 0, .int .i32 0, .int .i32 0] 114))
 have hq0 : w.heap.size < (w.alloc (.cells #[int i64 0, int i64 0, .int .i32 0, .int .i32 0] 114)).heap.size := by rw [zbm]; omega
 have hxz : i.x < (w.alloc (.cells #[int i64 0, int i64 0, .int .i32 0, .int .i32 0] 114)).heap.size := by rw [zbm]; omega
 have HH := zac (lhas_any c hc a cap t (w.alloc (.cells #[int i64 0, int i64 0, .int .i32 0, .int .i32 0] 114)))
 have hn4 := hc.n4
 rw [show inB t (-1) ((c.n : Int) - 1) = true from by rw [inB_iff]; omega] at HH
 have HS := fun W => zac (isSer_any ser W hser)
 have p3' : decide (win < 0) = false := by simp; omega
 have p4' : decide (100000 < win) = false := by simp; omega
 have HC := fun (W : World) (hb : Below (w.alloc (.cells #[int i64 0, int i64 0, .int .i32 0, .int .i32 0] 114)).heap.size (w.alloc (.cells #[int i64 0, int i64 0, .int .i32 0, .int .i32 0] 114)) W) => zac (lclosed_any c hc a cap t win m.now ht.1 ht.2 hwin hnow W.drew (hts.below (hb0.trans (hb.mono hb0.size)).drew))
 have hwf : (⟨t, ser, win⟩ : Sg).wf := by refine ⟨?_, ?_, ?_⟩ <;> unfold zdg <;> simp only <;> omega
 have HF := fun (W : World) (hb : Below (w.alloc (.cells #[int i64 0, int i64 0, .int .i32 0, .int .i32 0] 114)).heap.size (w.alloc (.cells #[int i64 0, int i64 0, .int .i32 0, .int .i32 0] 114)) W) => zac (pfind_any ((h.later hb0).later hb).set ⟨t, ser, win⟩ hwf)
 have K9 := c9
 clear hb0 h hts hwf
 by_cases p5 : m.now - c.la < (win + 1) * c.width t
 ·rw [show zct c m.now m.Gl m.L t ser win = (zdn, 9) from by unfold zct; rw [if_pos p5]]
  rw [show decide ((win + 1) * c.width t <= m.now - c.la) = false from by simp; omega] at HC
  clear p5 HF
  go_enter Tryz.func60, Tryz.ntmps60
  go_wp2_with (first | (go_at_call 117; refine (ud HH).mono ?_; rintro e w1 ⟨rfl, hb1⟩; have m0 := (hb1.cell (p := ⟨i.x, 0, none⟩) hxz).trans c0; have m1 := (hb1.cell (p := ⟨i.x, 1, none⟩) hxz).trans c1; have m2 := (hb1.cell (p := ⟨i.x, 2, none⟩) hxz).trans c2; have m3 := (hb1.cell (p := ⟨i.x, 3, none⟩) hxz).trans c3; have m4 := (hb1.cell (p := ⟨i.x, 4, none⟩) hxz).trans c4; have m5 := (hb1.cell (p := ⟨i.x, 5, none⟩) hxz).trans c5; have m6 := (hb1.cell (p := ⟨i.x, 6, none⟩) hxz).trans c6; have m8 := (hb1.cell (p := ⟨i.x, 8, none⟩) hxz).trans c8; have m9 := (hb1.cell (p := ⟨i.x, 9, none⟩) hxz).trans c9; have y0 : w1.cell? ⟨w.heap.size, 0, none⟩ = some (int i64 0) := (by rw [zab ((hb1.block w.heap.size hq0).trans (ud HL0))]; rfl); have y1 : w1.cell? ⟨w.heap.size, 1, none⟩ = some (int i64 0) := (by rw [zab ((hb1.block w.heap.size hq0).trans (ud HL0))]; rfl); have y2 : w1.cell? ⟨w.heap.size, 2, none⟩ = some (.int .i32 0) := (by rw [zab ((hb1.block w.heap.size hq0).trans (ud HL0))]; rfl); have y3 : w1.cell? ⟨w.heap.size, 3, none⟩ = some (.int .i32 0) := (by rw [zab ((hb1.block w.heap.size hq0).trans (ud HL0))]; rfl); have yf := fun j => zax ((hb1.block w.heap.size hq0).trans (ud HL0)) j; have HB1 := zac hb1) | (go_at_call 113; refine (ud (HS _)).mono ?_; rintro e W9 ⟨rfl, h9⟩; have h9' := h9.symm; subst h9'))
  have HCW := HC w1 (ud HB1)
  have hxz1 := Nat.lt_of_lt_of_le hxz (ud HB1).size
  clear y0 y1 y2 y3 yf hb1 c0 c1 c2 c3 c4 c5 c6 c8 c9 HC HS HH
  refine zbd 10 (by kernel_rfl) (by kernel_rfl) ?_
  simp only [List.take_succ_cons, List.take_zero, List.drop_succ_cons, List.drop_zero]
  repeat still_step
  refine wpStill_nil ?_
  go_wp2_with (first | (go_at_call 118; refine (ud HCW).mono ?_; rintro e w3 ⟨rfl, hb3⟩; have hb13 : Below _ _ w3 := (ud HB1).trans ((bel_d hb3).mono (ud HB1).size); have n9 := (hb13.cell (p := ⟨i.x, 9, none⟩) hxz).trans K9; have y0 : w3.cell? ⟨w.heap.size, 0, none⟩ = some (int i64 0) := (by rw [zab ((hb13.block w.heap.size hq0).trans (ud HL0))]; rfl); have y1 : w3.cell? ⟨w.heap.size, 1, none⟩ = some (int i64 0) := (by rw [zab ((hb13.block w.heap.size hq0).trans (ud HL0))]; rfl); have y2 : w3.cell? ⟨w.heap.size, 2, none⟩ = some (.int .i32 0) := (by rw [zab ((hb13.block w.heap.size hq0).trans (ud HL0))]; rfl); have y3 : w3.cell? ⟨w.heap.size, 3, none⟩ = some (.int .i32 0) := (by rw [zab ((hb13.block w.heap.size hq0).trans (ud HL0))]; rfl); have yf := fun j => zax ((hb13.block w.heap.size hq0).trans (ud HL0)) j; have HB13 := zac hb13))
  have e2 := ((ud HB13).block w.heap.size hq0).trans (ud HL0)
  have hf := set4c e2 (int i64 0) (int i64 0) (.int .i32 0) (.int .i32 0)
  refine bodyPost_ret (v := .tuple #[.agg #[int i64 0, int i64 0, .int .i32 0, .int .i32 0], int i64 9]) (zbh Tryz.results60 _ _ w.heap.size _ _ _ _ _ rfl rfl hf Tryz.underlying114 rfl (by kernel_rfl)) rfl ?_
  exact ⟨rfl, (ud HB0).trans (((ud HB13).mono (ud HB0).size).trans (below4 (Nat.le_refl _) _ _ _ _))⟩
 rw [show zct c m.now m.Gl m.L t ser win = zdq (stG m.Gl m.L ⟨t, ser, win⟩) from by unfold zct; rw [if_neg p5]]
 rw [show decide ((win + 1) * c.width t <= m.now - c.la) = true from by simp; omega] at HC
 unfold clV at HF
 dsimp only at HF
 generalize stG m.Gl m.L ⟨t, ser, win⟩ = v at *
 clear p5
 by_cases p6 : v.st = 0
 ·rw [show zdq v = (zdn, 10) from by unfold zdq; rw [if_pos p6]]
  have q6 : (v.st == 0) = true := by simp [p6]
  clear p6
  go_enter Tryz.func60, Tryz.ntmps60
  go_wp2_with (first | (go_at_call 117; refine (ud HH).mono ?_; rintro e w1 ⟨rfl, hb1⟩; have m0 := (hb1.cell (p := ⟨i.x, 0, none⟩) hxz).trans c0; have m1 := (hb1.cell (p := ⟨i.x, 1, none⟩) hxz).trans c1; have m2 := (hb1.cell (p := ⟨i.x, 2, none⟩) hxz).trans c2; have m3 := (hb1.cell (p := ⟨i.x, 3, none⟩) hxz).trans c3; have m4 := (hb1.cell (p := ⟨i.x, 4, none⟩) hxz).trans c4; have m5 := (hb1.cell (p := ⟨i.x, 5, none⟩) hxz).trans c5; have m6 := (hb1.cell (p := ⟨i.x, 6, none⟩) hxz).trans c6; have m8 := (hb1.cell (p := ⟨i.x, 8, none⟩) hxz).trans c8; have m9 := (hb1.cell (p := ⟨i.x, 9, none⟩) hxz).trans c9; have y0 : w1.cell? ⟨w.heap.size, 0, none⟩ = some (int i64 0) := (by rw [zab ((hb1.block w.heap.size hq0).trans (ud HL0))]; rfl); have y1 : w1.cell? ⟨w.heap.size, 1, none⟩ = some (int i64 0) := (by rw [zab ((hb1.block w.heap.size hq0).trans (ud HL0))]; rfl); have y2 : w1.cell? ⟨w.heap.size, 2, none⟩ = some (.int .i32 0) := (by rw [zab ((hb1.block w.heap.size hq0).trans (ud HL0))]; rfl); have y3 : w1.cell? ⟨w.heap.size, 3, none⟩ = some (.int .i32 0) := (by rw [zab ((hb1.block w.heap.size hq0).trans (ud HL0))]; rfl); have yf := fun j => zax ((hb1.block w.heap.size hq0).trans (ud HL0)) j; have HB1 := zac hb1) | (go_at_call 113; refine (ud (HS _)).mono ?_; rintro e W9 ⟨rfl, h9⟩; have h9' := h9.symm; subst h9'))
  have HCW := HC w1 (ud HB1)
  have hxz1 := Nat.lt_of_lt_of_le hxz (ud HB1).size
  clear y0 y1 y2 y3 yf hb1 c0 c1 c2 c3 c4 c5 c6 c8 c9 HC HS HH
  refine zbd 10 (by kernel_rfl) (by kernel_rfl) ?_
  simp only [List.take_succ_cons, List.take_zero, List.drop_succ_cons, List.drop_zero]
  repeat still_step
  refine wpStill_nil ?_
  go_wp2_with (first | (go_at_call 118; refine (ud HCW).mono ?_; rintro e w3 ⟨rfl, hb3⟩; have hb13 : Below _ _ w3 := (ud HB1).trans ((bel_d hb3).mono (ud HB1).size); have n9 := (hb13.cell (p := ⟨i.x, 9, none⟩) hxz).trans K9; have y0 : w3.cell? ⟨w.heap.size, 0, none⟩ = some (int i64 0) := (by rw [zab ((hb13.block w.heap.size hq0).trans (ud HL0))]; rfl); have y1 : w3.cell? ⟨w.heap.size, 1, none⟩ = some (int i64 0) := (by rw [zab ((hb13.block w.heap.size hq0).trans (ud HL0))]; rfl); have y2 : w3.cell? ⟨w.heap.size, 2, none⟩ = some (.int .i32 0) := (by rw [zab ((hb13.block w.heap.size hq0).trans (ud HL0))]; rfl); have y3 : w3.cell? ⟨w.heap.size, 3, none⟩ = some (.int .i32 0) := (by rw [zab ((hb13.block w.heap.size hq0).trans (ud HL0))]; rfl); have yf := fun j => zax ((hb13.block w.heap.size hq0).trans (ud HL0)) j; have HB13 := zac hb13))
  have HFW := HF w3 (ud HB13)
  clear HF y0 y1 y2 y3 yf
  refine (ud HFW).mono ?_
  rintro e w4 ⟨rfl, hb4⟩
  have hb14 := (ud HB13).trans (hb4.mono (ud HB13).size)
  have y0 : w4.cell? ⟨w.heap.size, 0, none⟩ = some (int i64 0) := (by rw [zab ((hb14.block w.heap.size hq0).trans (ud HL0))]; rfl)
  have y1 : w4.cell? ⟨w.heap.size, 1, none⟩ = some (int i64 0) := (by rw [zab ((hb14.block w.heap.size hq0).trans (ud HL0))]; rfl)
  have y2 : w4.cell? ⟨w.heap.size, 2, none⟩ = some (.int .i32 0) := (by rw [zab ((hb14.block w.heap.size hq0).trans (ud HL0))]; rfl)
  have y3 : w4.cell? ⟨w.heap.size, 3, none⟩ = some (.int .i32 0) := (by rw [zab ((hb14.block w.heap.size hq0).trans (ud HL0))]; rfl)
  have yf := fun j => zax ((hb14.block w.heap.size hq0).trans (ud HL0)) j
  have hq4 : w.heap.size < w4.heap.size := Nat.lt_of_lt_of_le hq0 hb14.size
  have HB14 := zac hb14
  clear hb4 hb14
  go_wp2_with fail
  have e2 := ((ud HB14).block w.heap.size hq0).trans (ud HL0)
  have hf0 := set4c e2 (int i64 0) (int i64 0) (.int .i32 0) (.int .i32 0)
  have hf := (Below.heap_alloc _ (.cells #[int i64 v.cl.cnt, int i64 v.cl.sum, .int .i32 v.cl.mn, .int .i32 v.cl.mx] 114) _ (zaa hf0)).trans hf0
  have hbz := (ud HB0).trans (((ud HB14).mono (ud HB0).size).trans (below4 (w := w4) (g := w.heap.size) (B := w.heap.size) (Nat.le_refl _) (int i64 0) (int i64 0) (.int .i32 0) (.int .i32 0)))
  refine bodyPost_ret (v := .tuple #[.agg #[int i64 0, int i64 0, .int .i32 0, .int .i32 0], int i64 10]) (zbh Tryz.results60 _ _ w.heap.size _ _ _ _ _ rfl rfl hf Tryz.underlying114 rfl (by kernel_rfl)) rfl ?_
  exact ⟨rfl, hbz.alloc hbz.size _⟩
 have q6 : (v.st == 0) = false := by simp [p6]
 by_cases p7 : v.st = 2
 ·rw [show zdq v = (zdn, 11) from by unfold zdq; rw [if_neg p6, if_pos p7]]
  have q7 : (v.st == 2) = true := by simp [p7]
  clear p6 p7
  go_enter Tryz.func60, Tryz.ntmps60
  go_wp2_with (first | (go_at_call 117; refine (ud HH).mono ?_; rintro e w1 ⟨rfl, hb1⟩; have m0 := (hb1.cell (p := ⟨i.x, 0, none⟩) hxz).trans c0; have m1 := (hb1.cell (p := ⟨i.x, 1, none⟩) hxz).trans c1; have m2 := (hb1.cell (p := ⟨i.x, 2, none⟩) hxz).trans c2; have m3 := (hb1.cell (p := ⟨i.x, 3, none⟩) hxz).trans c3; have m4 := (hb1.cell (p := ⟨i.x, 4, none⟩) hxz).trans c4; have m5 := (hb1.cell (p := ⟨i.x, 5, none⟩) hxz).trans c5; have m6 := (hb1.cell (p := ⟨i.x, 6, none⟩) hxz).trans c6; have m8 := (hb1.cell (p := ⟨i.x, 8, none⟩) hxz).trans c8; have m9 := (hb1.cell (p := ⟨i.x, 9, none⟩) hxz).trans c9; have y0 : w1.cell? ⟨w.heap.size, 0, none⟩ = some (int i64 0) := (by rw [zab ((hb1.block w.heap.size hq0).trans (ud HL0))]; rfl); have y1 : w1.cell? ⟨w.heap.size, 1, none⟩ = some (int i64 0) := (by rw [zab ((hb1.block w.heap.size hq0).trans (ud HL0))]; rfl); have y2 : w1.cell? ⟨w.heap.size, 2, none⟩ = some (.int .i32 0) := (by rw [zab ((hb1.block w.heap.size hq0).trans (ud HL0))]; rfl); have y3 : w1.cell? ⟨w.heap.size, 3, none⟩ = some (.int .i32 0) := (by rw [zab ((hb1.block w.heap.size hq0).trans (ud HL0))]; rfl); have yf := fun j => zax ((hb1.block w.heap.size hq0).trans (ud HL0)) j; have HB1 := zac hb1) | (go_at_call 113; refine (ud (HS _)).mono ?_; rintro e W9 ⟨rfl, h9⟩; have h9' := h9.symm; subst h9'))
  have HCW := HC w1 (ud HB1)
  have hxz1 := Nat.lt_of_lt_of_le hxz (ud HB1).size
  clear y0 y1 y2 y3 yf hb1 c0 c1 c2 c3 c4 c5 c6 c8 c9 HC HS HH
  refine zbd 10 (by kernel_rfl) (by kernel_rfl) ?_
  simp only [List.take_succ_cons, List.take_zero, List.drop_succ_cons, List.drop_zero]
  repeat still_step
  refine wpStill_nil ?_
  go_wp2_with (first | (go_at_call 118; refine (ud HCW).mono ?_; rintro e w3 ⟨rfl, hb3⟩; have hb13 : Below _ _ w3 := (ud HB1).trans ((bel_d hb3).mono (ud HB1).size); have n9 := (hb13.cell (p := ⟨i.x, 9, none⟩) hxz).trans K9; have y0 : w3.cell? ⟨w.heap.size, 0, none⟩ = some (int i64 0) := (by rw [zab ((hb13.block w.heap.size hq0).trans (ud HL0))]; rfl); have y1 : w3.cell? ⟨w.heap.size, 1, none⟩ = some (int i64 0) := (by rw [zab ((hb13.block w.heap.size hq0).trans (ud HL0))]; rfl); have y2 : w3.cell? ⟨w.heap.size, 2, none⟩ = some (.int .i32 0) := (by rw [zab ((hb13.block w.heap.size hq0).trans (ud HL0))]; rfl); have y3 : w3.cell? ⟨w.heap.size, 3, none⟩ = some (.int .i32 0) := (by rw [zab ((hb13.block w.heap.size hq0).trans (ud HL0))]; rfl); have yf := fun j => zax ((hb13.block w.heap.size hq0).trans (ud HL0)) j; have HB13 := zac hb13))
  have HFW := HF w3 (ud HB13)
  clear HF y0 y1 y2 y3 yf
  refine (ud HFW).mono ?_
  rintro e w4 ⟨rfl, hb4⟩
  have hb14 := (ud HB13).trans (hb4.mono (ud HB13).size)
  have y0 : w4.cell? ⟨w.heap.size, 0, none⟩ = some (int i64 0) := (by rw [zab ((hb14.block w.heap.size hq0).trans (ud HL0))]; rfl)
  have y1 : w4.cell? ⟨w.heap.size, 1, none⟩ = some (int i64 0) := (by rw [zab ((hb14.block w.heap.size hq0).trans (ud HL0))]; rfl)
  have y2 : w4.cell? ⟨w.heap.size, 2, none⟩ = some (.int .i32 0) := (by rw [zab ((hb14.block w.heap.size hq0).trans (ud HL0))]; rfl)
  have y3 : w4.cell? ⟨w.heap.size, 3, none⟩ = some (.int .i32 0) := (by rw [zab ((hb14.block w.heap.size hq0).trans (ud HL0))]; rfl)
  have yf := fun j => zax ((hb14.block w.heap.size hq0).trans (ud HL0)) j
  have hq4 : w.heap.size < w4.heap.size := Nat.lt_of_lt_of_le hq0 hb14.size
  have HB14 := zac hb14
  clear hb4 hb14
  go_wp2_with fail
  have e2 := ((ud HB14).block w.heap.size hq0).trans (ud HL0)
  have hf0 := set4c e2 (int i64 0) (int i64 0) (.int .i32 0) (.int .i32 0)
  have hf := (Below.heap_alloc _ (.cells #[int i64 v.cl.cnt, int i64 v.cl.sum, .int .i32 v.cl.mn, .int .i32 v.cl.mx] 114) _ (zaa hf0)).trans hf0
  have hbz := (ud HB0).trans (((ud HB14).mono (ud HB0).size).trans (below4 (w := w4) (g := w.heap.size) (B := w.heap.size) (Nat.le_refl _) (int i64 0) (int i64 0) (.int .i32 0) (.int .i32 0)))
  refine bodyPost_ret (v := .tuple #[.agg #[int i64 0, int i64 0, .int .i32 0, .int .i32 0], int i64 11]) (zbh Tryz.results60 _ _ w.heap.size _ _ _ _ _ rfl rfl hf Tryz.underlying114 rfl (by kernel_rfl)) rfl ?_
  exact ⟨rfl, hbz.alloc hbz.size _⟩
 have q7 : (v.st == 2) = false := by simp [p7]
 by_cases p8 : v.st = 4
 ·rw [show zdq v = (zdn, 12) from by unfold zdq; rw [if_neg p6, if_neg p7, if_pos p8]]
  have q8 : (v.st == 4) = true := by simp [p8]
  clear p6 p7 p8
  go_enter Tryz.func60, Tryz.ntmps60
  go_wp2_with (first | (go_at_call 117; refine (ud HH).mono ?_; rintro e w1 ⟨rfl, hb1⟩; have m0 := (hb1.cell (p := ⟨i.x, 0, none⟩) hxz).trans c0; have m1 := (hb1.cell (p := ⟨i.x, 1, none⟩) hxz).trans c1; have m2 := (hb1.cell (p := ⟨i.x, 2, none⟩) hxz).trans c2; have m3 := (hb1.cell (p := ⟨i.x, 3, none⟩) hxz).trans c3; have m4 := (hb1.cell (p := ⟨i.x, 4, none⟩) hxz).trans c4; have m5 := (hb1.cell (p := ⟨i.x, 5, none⟩) hxz).trans c5; have m6 := (hb1.cell (p := ⟨i.x, 6, none⟩) hxz).trans c6; have m8 := (hb1.cell (p := ⟨i.x, 8, none⟩) hxz).trans c8; have m9 := (hb1.cell (p := ⟨i.x, 9, none⟩) hxz).trans c9; have y0 : w1.cell? ⟨w.heap.size, 0, none⟩ = some (int i64 0) := (by rw [zab ((hb1.block w.heap.size hq0).trans (ud HL0))]; rfl); have y1 : w1.cell? ⟨w.heap.size, 1, none⟩ = some (int i64 0) := (by rw [zab ((hb1.block w.heap.size hq0).trans (ud HL0))]; rfl); have y2 : w1.cell? ⟨w.heap.size, 2, none⟩ = some (.int .i32 0) := (by rw [zab ((hb1.block w.heap.size hq0).trans (ud HL0))]; rfl); have y3 : w1.cell? ⟨w.heap.size, 3, none⟩ = some (.int .i32 0) := (by rw [zab ((hb1.block w.heap.size hq0).trans (ud HL0))]; rfl); have yf := fun j => zax ((hb1.block w.heap.size hq0).trans (ud HL0)) j; have HB1 := zac hb1) | (go_at_call 113; refine (ud (HS _)).mono ?_; rintro e W9 ⟨rfl, h9⟩; have h9' := h9.symm; subst h9'))
  have HCW := HC w1 (ud HB1)
  have hxz1 := Nat.lt_of_lt_of_le hxz (ud HB1).size
  clear y0 y1 y2 y3 yf hb1 c0 c1 c2 c3 c4 c5 c6 c8 c9 HC HS HH
  refine zbd 10 (by kernel_rfl) (by kernel_rfl) ?_
  simp only [List.take_succ_cons, List.take_zero, List.drop_succ_cons, List.drop_zero]
  repeat still_step
  refine wpStill_nil ?_
  go_wp2_with (first | (go_at_call 118; refine (ud HCW).mono ?_; rintro e w3 ⟨rfl, hb3⟩; have hb13 : Below _ _ w3 := (ud HB1).trans ((bel_d hb3).mono (ud HB1).size); have n9 := (hb13.cell (p := ⟨i.x, 9, none⟩) hxz).trans K9; have y0 : w3.cell? ⟨w.heap.size, 0, none⟩ = some (int i64 0) := (by rw [zab ((hb13.block w.heap.size hq0).trans (ud HL0))]; rfl); have y1 : w3.cell? ⟨w.heap.size, 1, none⟩ = some (int i64 0) := (by rw [zab ((hb13.block w.heap.size hq0).trans (ud HL0))]; rfl); have y2 : w3.cell? ⟨w.heap.size, 2, none⟩ = some (.int .i32 0) := (by rw [zab ((hb13.block w.heap.size hq0).trans (ud HL0))]; rfl); have y3 : w3.cell? ⟨w.heap.size, 3, none⟩ = some (.int .i32 0) := (by rw [zab ((hb13.block w.heap.size hq0).trans (ud HL0))]; rfl); have yf := fun j => zax ((hb13.block w.heap.size hq0).trans (ud HL0)) j; have HB13 := zac hb13))
  have HFW := HF w3 (ud HB13)
  clear HF y0 y1 y2 y3 yf
  refine (ud HFW).mono ?_
  rintro e w4 ⟨rfl, hb4⟩
  have hb14 := (ud HB13).trans (hb4.mono (ud HB13).size)
  have y0 : w4.cell? ⟨w.heap.size, 0, none⟩ = some (int i64 0) := (by rw [zab ((hb14.block w.heap.size hq0).trans (ud HL0))]; rfl)
  have y1 : w4.cell? ⟨w.heap.size, 1, none⟩ = some (int i64 0) := (by rw [zab ((hb14.block w.heap.size hq0).trans (ud HL0))]; rfl)
  have y2 : w4.cell? ⟨w.heap.size, 2, none⟩ = some (.int .i32 0) := (by rw [zab ((hb14.block w.heap.size hq0).trans (ud HL0))]; rfl)
  have y3 : w4.cell? ⟨w.heap.size, 3, none⟩ = some (.int .i32 0) := (by rw [zab ((hb14.block w.heap.size hq0).trans (ud HL0))]; rfl)
  have yf := fun j => zax ((hb14.block w.heap.size hq0).trans (ud HL0)) j
  have hq4 : w.heap.size < w4.heap.size := Nat.lt_of_lt_of_le hq0 hb14.size
  have HB14 := zac hb14
  clear hb4 hb14
  go_wp2_with fail
  have e2 := ((ud HB14).block w.heap.size hq0).trans (ud HL0)
  have hf0 := set4c e2 (int i64 0) (int i64 0) (.int .i32 0) (.int .i32 0)
  have hf := (Below.heap_alloc _ (.cells #[int i64 v.cl.cnt, int i64 v.cl.sum, .int .i32 v.cl.mn, .int .i32 v.cl.mx] 114) _ (zaa hf0)).trans hf0
  have hbz := (ud HB0).trans (((ud HB14).mono (ud HB0).size).trans (below4 (w := w4) (g := w.heap.size) (B := w.heap.size) (Nat.le_refl _) (int i64 0) (int i64 0) (.int .i32 0) (.int .i32 0)))
  refine bodyPost_ret (v := .tuple #[.agg #[int i64 0, int i64 0, .int .i32 0, .int .i32 0], int i64 12]) (zbh Tryz.results60 _ _ w.heap.size _ _ _ _ _ rfl rfl hf Tryz.underlying114 rfl (by kernel_rfl)) rfl ?_
  exact ⟨rfl, hbz.alloc hbz.size _⟩
 have q8 : (v.st == 4) = false := by simp [p8]
 rw [show zdq v = (v.cl, 0) from by unfold zdq; rw [if_neg p6, if_neg p7, if_neg p8]]
 clear p6 p7 p8
 go_enter Tryz.func60, Tryz.ntmps60
 go_wp2_with (first | (go_at_call 117; refine (ud HH).mono ?_; rintro e w1 ⟨rfl, hb1⟩; have m0 := (hb1.cell (p := ⟨i.x, 0, none⟩) hxz).trans c0; have m1 := (hb1.cell (p := ⟨i.x, 1, none⟩) hxz).trans c1; have m2 := (hb1.cell (p := ⟨i.x, 2, none⟩) hxz).trans c2; have m3 := (hb1.cell (p := ⟨i.x, 3, none⟩) hxz).trans c3; have m4 := (hb1.cell (p := ⟨i.x, 4, none⟩) hxz).trans c4; have m5 := (hb1.cell (p := ⟨i.x, 5, none⟩) hxz).trans c5; have m6 := (hb1.cell (p := ⟨i.x, 6, none⟩) hxz).trans c6; have m8 := (hb1.cell (p := ⟨i.x, 8, none⟩) hxz).trans c8; have m9 := (hb1.cell (p := ⟨i.x, 9, none⟩) hxz).trans c9; have y0 : w1.cell? ⟨w.heap.size, 0, none⟩ = some (int i64 0) := (by rw [zab ((hb1.block w.heap.size hq0).trans (ud HL0))]; rfl); have y1 : w1.cell? ⟨w.heap.size, 1, none⟩ = some (int i64 0) := (by rw [zab ((hb1.block w.heap.size hq0).trans (ud HL0))]; rfl); have y2 : w1.cell? ⟨w.heap.size, 2, none⟩ = some (.int .i32 0) := (by rw [zab ((hb1.block w.heap.size hq0).trans (ud HL0))]; rfl); have y3 : w1.cell? ⟨w.heap.size, 3, none⟩ = some (.int .i32 0) := (by rw [zab ((hb1.block w.heap.size hq0).trans (ud HL0))]; rfl); have yf := fun j => zax ((hb1.block w.heap.size hq0).trans (ud HL0)) j; have HB1 := zac hb1) | (go_at_call 113; refine (ud (HS _)).mono ?_; rintro e W9 ⟨rfl, h9⟩; have h9' := h9.symm; subst h9'))
 have HCW := HC w1 (ud HB1)
 have hxz1 := Nat.lt_of_lt_of_le hxz (ud HB1).size
 clear y0 y1 y2 y3 yf hb1 c0 c1 c2 c3 c4 c5 c6 c8 c9 HC HS HH
 refine zbd 10 (by kernel_rfl) (by kernel_rfl) ?_
 simp only [List.take_succ_cons, List.take_zero, List.drop_succ_cons, List.drop_zero]
 repeat still_step
 refine wpStill_nil ?_
 go_wp2_with (first | (go_at_call 118; refine (ud HCW).mono ?_; rintro e w3 ⟨rfl, hb3⟩; have hb13 : Below _ _ w3 := (ud HB1).trans ((bel_d hb3).mono (ud HB1).size); have n9 := (hb13.cell (p := ⟨i.x, 9, none⟩) hxz).trans K9; have y0 : w3.cell? ⟨w.heap.size, 0, none⟩ = some (int i64 0) := (by rw [zab ((hb13.block w.heap.size hq0).trans (ud HL0))]; rfl); have y1 : w3.cell? ⟨w.heap.size, 1, none⟩ = some (int i64 0) := (by rw [zab ((hb13.block w.heap.size hq0).trans (ud HL0))]; rfl); have y2 : w3.cell? ⟨w.heap.size, 2, none⟩ = some (.int .i32 0) := (by rw [zab ((hb13.block w.heap.size hq0).trans (ud HL0))]; rfl); have y3 : w3.cell? ⟨w.heap.size, 3, none⟩ = some (.int .i32 0) := (by rw [zab ((hb13.block w.heap.size hq0).trans (ud HL0))]; rfl); have yf := fun j => zax ((hb13.block w.heap.size hq0).trans (ud HL0)) j; have HB13 := zac hb13))
 have HFW := HF w3 (ud HB13)
 clear HF y0 y1 y2 y3 yf
 refine (ud HFW).mono ?_
 rintro e w4 ⟨rfl, hb4⟩
 have hb14 := (ud HB13).trans (hb4.mono (ud HB13).size)
 have y0 : w4.cell? ⟨w.heap.size, 0, none⟩ = some (int i64 0) := (by rw [zab ((hb14.block w.heap.size hq0).trans (ud HL0))]; rfl)
 have y1 : w4.cell? ⟨w.heap.size, 1, none⟩ = some (int i64 0) := (by rw [zab ((hb14.block w.heap.size hq0).trans (ud HL0))]; rfl)
 have y2 : w4.cell? ⟨w.heap.size, 2, none⟩ = some (.int .i32 0) := (by rw [zab ((hb14.block w.heap.size hq0).trans (ud HL0))]; rfl)
 have y3 : w4.cell? ⟨w.heap.size, 3, none⟩ = some (.int .i32 0) := (by rw [zab ((hb14.block w.heap.size hq0).trans (ud HL0))]; rfl)
 have yf := fun j => zax ((hb14.block w.heap.size hq0).trans (ud HL0)) j
 have hq4 : w.heap.size < w4.heap.size := Nat.lt_of_lt_of_le hq0 hb14.size
 have HB14 := zac hb14
 clear hb4 hb14
 go_wp2_with fail
 have e2 := ((ud HB14).block w.heap.size hq0).trans (ud HL0)
 have hf0 := set4c e2 (int i64 v.cl.cnt) (int i64 v.cl.sum) (.int .i32 v.cl.mn) (.int .i32 v.cl.mx)
 have hf := (Below.heap_alloc _ (.cells #[int i64 v.cl.cnt, int i64 v.cl.sum, .int .i32 v.cl.mn, .int .i32 v.cl.mx] 114) _ (zaa hf0)).trans hf0
 have hbz := (ud HB0).trans (((ud HB14).mono (ud HB0).size).trans (below4 (w := w4) (g := w.heap.size) (B := w.heap.size) (Nat.le_refl _) (int i64 v.cl.cnt) (int i64 v.cl.sum) (.int .i32 v.cl.mn) (.int .i32 v.cl.mx)))
 refine bodyPost_ret (v := .tuple #[.agg #[int i64 v.cl.cnt, int i64 v.cl.sum, .int .i32 v.cl.mn, .int .i32 v.cl.mx], int i64 0]) (zbh Tryz.results60 _ _ w.heap.size _ _ _ _ _ rfl rfl hf Tryz.underlying114 rfl (by kernel_rfl)) rfl ?_
 exact ⟨rfl, hbz.alloc hbz.size _⟩
end Go.Proofs.YtpbimdkclnekeaaGreat
