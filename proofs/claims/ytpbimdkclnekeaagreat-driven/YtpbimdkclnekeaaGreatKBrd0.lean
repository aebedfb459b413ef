import Derived.Test.YtpbimdkclnekeaaGreatKHng0

namespace Go.Proofs.YtpbimdkclnekeaaGreat
open Value (int)
open IntKind (i64)
open Go.RowKit Go.Maps Go.Shelf
set_option linter.unusedVariables false
theorem meth_Roll_Kind (s : Sg) (w : World) : (method 419 175 (.agg #[int i64 s.t, int i64 s.ser, int i64 s.win]) "Kind").run Tryz.prog w = .ok (250, .agg #[int i64 s.t, int i64 s.ser, int i64 s.win]) w := by kernel_rfl
theorem meth_Roll_Segment (s : Sg) (w : World) : (method 419 175 (.agg #[int i64 s.t, int i64 s.ser, int i64 s.win]) "Segment").run Tryz.prog w = .ok (251, .agg #[int i64 s.t, int i64 s.ser, int i64 s.win]) w := by kernel_rfl
theorem meth_Roll_Due (s : Sg) (w : World) : (method 419 175 (.agg #[int i64 s.t, int i64 s.ser, int i64 s.win]) "Due").run Tryz.prog w = .ok (249, .agg #[int i64 s.t, int i64 s.ser, int i64 s.win]) w := by kernel_rfl
theorem kind_Roll (s : Sg) (w : World) : Calls Tryz.prog 250 #[.agg #[int i64 s.t, int i64 s.ser, int i64 s.win]] w fun e w' => e = .returned (int i64 1) /\ Below w.heap.size w w' := by
 go_enter Tryz.func250, Tryz.ntmps250
 go_wp2_with fail
 go_ret
 exact ⟨rfl, (Below.refl _ _).alloc (Nat.le_refl _) _⟩
set_option maxHeartbeats 1000000 in
theorem segm_Roll (s : Sg) (w : World) : Calls Tryz.prog 251 #[.agg #[int i64 s.t, int i64 s.ser, int i64 s.win]] w fun e w' => e = .returned (.agg #[int i64 s.t, int i64 s.ser, int i64 s.win]) /\ Below w.heap.size w w' := by
 obtain ⟨y0, y1, hbw, yz⟩ := box2 w (.cells #[int i64 s.t, int i64 s.ser, int i64 s.win] 175) (.cells #[int i64 s.t, int i64 s.ser, int i64 s.win] 137)
 go_enter Tryz.func251, Tryz.ntmps251
 go_wp2_with fail
 refine bodyPost_ret (v := .agg #[int i64 s.t, int i64 s.ser, int i64 s.win]) (results_cell_row Tryz.results251 _ _ (w.heap.size + 1) _ _ _ _ rfl y1 Tryz.underlying137 rfl (by kernel_rfl)) rfl ?_
 exact ⟨rfl, hbw⟩
set_option maxRecDepth 20000 in
set_option maxHeartbeats 2000000 in
theorem keyOf_Roll (s : Sg) (w : World) : Calls Tryz.prog 87 #[.iface 175 (.agg #[int i64 s.t, int i64 s.ser, int i64 s.win])] w fun e w' => e = .returned (.agg #[int i64 1, int i64 s.t, int i64 s.ser, int i64 s.win]) /\ Below w.heap.size w w' := by
 have b0 := zag w (.cells #[int i64 0, int i64 0, int i64 0, int i64 0] 147)
 have bz := zbm w (.cells #[int i64 0, int i64 0, int i64 0, int i64 0] 147)
 have hb0 : Below w.heap.size w (w.alloc (.cells #[int i64 0, int i64 0, int i64 0, int i64 0] 147)) := (Below.refl _ _).alloc (Nat.le_refl _) _
 have HK := fun W => zac (kind_Roll s W)
 have HS := fun W => zac (segm_Roll s W)
 have B0 := zac b0
 have BZ := zac bz
 have HB0 := zac hb0
 clear b0 bz hb0
 have hm1 := meth_Roll_Kind s
 have hm2 := meth_Roll_Segment s
 go_enter Tryz.func87, Tryz.ntmps87
 go_wp2_with (first
  | (go_at_call 250; refine (ud (HK _)).mono ?_; rintro e w1 ⟨rfl, hb1⟩; have HB1 := zac hb1; clear hb1)
  | (go_at_call 251; refine (ud (HS _)).mono ?_; rintro e w2 ⟨rfl, hb2⟩; have hz0 : w.heap.size < (w.alloc (.cells #[int i64 0, int i64 0, int i64 0, int i64 0] 147)).heap.size := (by rw [ud BZ]; omega); have e2 := (hb2.block w.heap.size (Nat.lt_of_lt_of_le hz0 (ud HB1).size)).trans (((ud HB1).block w.heap.size hz0).trans (ud B0)); have y0 : w2.cell? ⟨w.heap.size, 0, none⟩ = some (int i64 0) := (by rw [zab e2]; rfl); have y1 : w2.cell? ⟨w.heap.size, 1, none⟩ = some (int i64 0) := (by rw [zab e2]; rfl); have y2 : w2.cell? ⟨w.heap.size, 2, none⟩ = some (int i64 0) := (by rw [zab e2]; rfl); have y3 : w2.cell? ⟨w.heap.size, 3, none⟩ = some (int i64 0) := (by rw [zab e2]; rfl); have yf := fun j => zax e2 j; have hl2 := zaa e2; have E2 := zac e2; have HB2 := zac hb2; clear hb2 e2 hz0))
 have hf := zcu (i := 3) (zcu (i := 2) (zcu (i := 1) (zcu (i := 0) (ud E2) (int i64 1)) (int i64 s.t)) (int i64 s.ser)) (int i64 s.win)
 refine bodyPost_ret (v := .agg #[int i64 1, int i64 s.t, int i64 s.ser, int i64 s.win]) (results_cell_row Tryz.results87 _ _ w.heap.size _ _ _ _ rfl hf Tryz.underlying147 rfl (by kernel_rfl)) rfl ?_
 have hb := ud HB0
 have hb1 := ud HB1
 have hb2 := ud HB2
 exact ⟨rfl, (hb.trans (hb1.mono hb.size)).trans ((hb2.mono (Nat.le_trans hb.size hb1.size)).trans (below4 (Nat.le_refl _) _ _ _ _))⟩
theorem meth_Reclaim_Kind (s : Sg) (w : World) : (method 419 177 (.agg #[int i64 s.t, int i64 s.ser, int i64 s.win]) "Kind").run Tryz.prog w = .ok (253, .agg #[int i64 s.t, int i64 s.ser, int i64 s.win]) w := by kernel_rfl
theorem meth_Reclaim_Segment (s : Sg) (w : World) : (method 419 177 (.agg #[int i64 s.t, int i64 s.ser, int i64 s.win]) "Segment").run Tryz.prog w = .ok (254, .agg #[int i64 s.t, int i64 s.ser, int i64 s.win]) w := by kernel_rfl
theorem meth_Reclaim_Due (s : Sg) (w : World) : (method 419 177 (.agg #[int i64 s.t, int i64 s.ser, int i64 s.win]) "Due").run Tryz.prog w = .ok (252, .agg #[int i64 s.t, int i64 s.ser, int i64 s.win]) w := by kernel_rfl
theorem kind_Reclaim (s : Sg) (w : World) : Calls Tryz.prog 253 #[.agg #[int i64 s.t, int i64 s.ser, int i64 s.win]] w fun e w' => e = .returned (int i64 2) /\ Below w.heap.size w w' := by
 go_enter Tryz.func253, Tryz.ntmps253
 go_wp2_with fail
 go_ret
 exact ⟨rfl, (Below.refl _ _).alloc (Nat.le_refl _) _⟩
set_option maxHeartbeats 1000000 in
theorem segm_Reclaim (s : Sg) (w : World) : Calls Tryz.prog 254 #[.agg #[int i64 s.t, int i64 s.ser, int i64 s.win]] w fun e w' => e = .returned (.agg #[int i64 s.t, int i64 s.ser, int i64 s.win]) /\ Below w.heap.size w w' := by
 obtain ⟨y0, y1, hbw, yz⟩ := box2 w (.cells #[int i64 s.t, int i64 s.ser, int i64 s.win] 177) (.cells #[int i64 s.t, int i64 s.ser, int i64 s.win] 137)
 go_enter Tryz.func254, Tryz.ntmps254
 go_wp2_with fail
 refine bodyPost_ret (v := .agg #[int i64 s.t, int i64 s.ser, int i64 s.win]) (results_cell_row Tryz.results254 _ _ (w.heap.size + 1) _ _ _ _ rfl y1 Tryz.underlying137 rfl (by kernel_rfl)) rfl ?_
 exact ⟨rfl, hbw⟩
set_option maxRecDepth 20000 in
set_option maxHeartbeats 2000000 in
theorem keyOf_Reclaim (s : Sg) (w : World) : Calls Tryz.prog 87 #[.iface 177 (.agg #[int i64 s.t, int i64 s.ser, int i64 s.win])] w fun e w' => e = .returned (.agg #[int i64 2, int i64 s.t, int i64 s.ser, int i64 s.win]) /\ Below w.heap.size w w' := by
 have b0 := zag w (.cells #[int i64 0, int i64 0, int i64 0, int i64 0] 147)
 have bz := zbm w (.cells #[int i64 0, int i64 0, int i64 0, int i64 0] 147)
 have hb0 : Below w.heap.size w (w.alloc (.cells #[int i64 0, int i64 0, int i64 0, int i64 0] 147)) := (Below.refl _ _).alloc (Nat.le_refl _) _
 have HK := fun W => zac (kind_Reclaim s W)
 have HS := fun W => zac (segm_Reclaim s W)
 have B0 := zac b0
 have BZ := zac bz
 have HB0 := zac hb0
 clear b0 bz hb0
 have hm1 := meth_Reclaim_Kind s
 have hm2 := meth_Reclaim_Segment s
 go_enter Tryz.func87, Tryz.ntmps87
 go_wp2_with (first
  | (go_at_call 253; refine (ud (HK _)).mono ?_; rintro e w1 ⟨rfl, hb1⟩; have HB1 := zac hb1; clear hb1)
  | (go_at_call 254; refine (ud (HS _)).mono ?_; rintro e w2 ⟨rfl, hb2⟩; have hz0 : w.heap.size < (w.alloc (.cells #[int i64 0, int i64 0, int i64 0, int i64 0] 147)).heap.size := (by rw [ud BZ]; omega); have e2 := (hb2.block w.heap.size (Nat.lt_of_lt_of_le hz0 (ud HB1).size)).trans (((ud HB1).block w.heap.size hz0).trans (ud B0)); have y0 : w2.cell? ⟨w.heap.size, 0, none⟩ = some (int i64 0) := (by rw [zab e2]; rfl); have y1 : w2.cell? ⟨w.heap.size, 1, none⟩ = some (int i64 0) := (by rw [zab e2]; rfl); have y2 : w2.cell? ⟨w.heap.size, 2, none⟩ = some (int i64 0) := (by rw [zab e2]; rfl); have y3 : w2.cell? ⟨w.heap.size, 3, none⟩ = some (int i64 0) := (by rw [zab e2]; rfl); have yf := fun j => zax e2 j; have hl2 := zaa e2; have E2 := zac e2; have HB2 := zac hb2; clear hb2 e2 hz0))
 have hf := zcu (i := 3) (zcu (i := 2) (zcu (i := 1) (zcu (i := 0) (ud E2) (int i64 2)) (int i64 s.t)) (int i64 s.ser)) (int i64 s.win)
 refine bodyPost_ret (v := .agg #[int i64 2, int i64 s.t, int i64 s.ser, int i64 s.win]) (results_cell_row Tryz.results87 _ _ w.heap.size _ _ _ _ rfl hf Tryz.underlying147 rfl (by kernel_rfl)) rfl ?_
 have hb := ud HB0
 have hb1 := ud HB1
 have hb2 := ud HB2
 exact ⟨rfl, (hb.trans (hb1.mono hb.size)).trans ((hb2.mono (Nat.le_trans hb.size hb1.size)).trans (below4 (Nat.le_refl _) _ _ _ _))⟩
end Go.Proofs.YtpbimdkclnekeaaGreat
