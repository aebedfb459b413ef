import Derived.Test.YtpbimdkclnekeaaGreatGOrd2

namespace Go.Proofs.YtpbimdkclnekeaaGreat.Dr
open Go.RowKit Go.Maps Go.Shelf
set_option linter.unusedVariables false
structure Below (B : Nat) (w w' : World) : Prop where
  bel : Go.RowKit.Below B w w'
  more : w.drawn ≤ w'.drawn
theorem Below.size {B : Nat} {w w' : World} (h : Below B w w') : w.heap.size ≤ w'.heap.size := h.bel.size
theorem Below.block {B : Nat} {w w' : World} (h : Below B w w') : ∀ k, k < B → w'.heap[k]? = w.heap[k]? := h.bel.block
theorem Below.cell {B : Nat} {w w' : World} (h : Below B w w') {p : Addr} (hp : p.block < B) : w'.cell? p = w.cell? p := h.bel.cell hp
theorem Below.refl (B : Nat) (w : World) : Below B w w := ⟨Go.RowKit.Below.refl _ _, Nat.le_refl _⟩
theorem Below.trans {B : Nat} {a b c : World} (h : Below B a b) (k : Below B b c) : Below B a c := ⟨h.bel.trans k.bel, Nat.le_trans h.more k.more⟩
theorem Below.mono {B B' : Nat} {w w' : World} (h : Below B w w') (hB : B' ≤ B) : Below B' w w' := ⟨h.bel.mono hB, h.more⟩
theorem Below.drew {B : Nat} {a w : World} (h : Below B a w) : Below B a w.drew := ⟨h.bel.drew, Nat.le_trans h.more (Nat.le_succ _)⟩
theorem Below.alloc {B : Nat} {a w : World} (h : Below B a w) (hB : B ≤ w.heap.size) (o : Obj) : Below B a (w.alloc o) := ⟨h.bel.alloc hB o, h.more⟩
theorem setCell_drawn (w : World) (p : Addr) (u : Value) : (w.setCell p u).drawn = w.drawn := by
  unfold World.setCell; repeat' split
  all_goals rfl
theorem Below.setCell {B : Nat} {a w : World} (h : Below B a w) {p : Addr} (hp : B ≤ p.block) (u : Value) : Below B a (w.setCell p u) := ⟨h.bel.setCell hp u, by rw [setCell_drawn]; exact h.more⟩
theorem Below.heap_alloc (w : World) (o : Obj) (k : Nat) (h : k < w.heap.size) : (w.alloc o).heap[k]? = w.heap[k]? := Go.RowKit.Below.heap_alloc w o k h
theorem Below.heap_setCell (w : World) (a : Addr) (u : Value) (k : Nat) (h : k ≠ a.block) : (w.setCell a u).heap[k]? = w.heap[k]? := Go.RowKit.Below.heap_setCell w a u k h
theorem box2 (w : World) (a b : Obj) : ((w.alloc a).alloc b).heap[w.heap.size]? = some a ∧ ((w.alloc a).alloc b).heap[w.heap.size + 1]? = some b ∧ Below w.heap.size w ((w.alloc a).alloc b) ∧ ((w.alloc a).alloc b).heap.size = w.heap.size + 2 := by
  obtain ⟨h1, h2, h3, h4⟩ := YtpbimdkclnekeaaGreat.box2 w a b
  exact ⟨h1, h2, ⟨h3, Nat.le_refl _⟩, h4⟩
theorem below4 {B : Nat} {w : World} {g : Nat} (h : B ≤ g) (a b c d : Value) : Below B w ((((w.setCell ⟨g, 0, none⟩ a).setCell ⟨g, 1, none⟩ b).setCell ⟨g, 2, none⟩ c).setCell ⟨g, 3, none⟩ d) := ⟨YtpbimdkclnekeaaGreat.below4 h a b c d, by simp only [setCell_drawn]; exact Nat.le_refl _⟩
theorem kind_Roll (s : Sg) (w : World) : Calls Tryz.prog 250 #[.agg #[.int .i64 s.t, .int .i64 s.ser, .int .i64 s.win]] w fun e w' => e = .returned (.int .i64 1) ∧ Below w.heap.size w w' := by
  go_enter Tryz.func250, Tryz.ntmps250
  go_wp2_with fail
  go_ret
  exact ⟨rfl, (Below.refl _ _).alloc (Nat.le_refl _) _⟩
set_option maxHeartbeats 1000000 in
theorem segm_Roll (s : Sg) (w : World) : Calls Tryz.prog 251 #[.agg #[.int .i64 s.t, .int .i64 s.ser, .int .i64 s.win]] w fun e w' => e = .returned (.agg #[.int .i64 s.t, .int .i64 s.ser, .int .i64 s.win]) ∧ Below w.heap.size w w' := by
  obtain ⟨y0, y1, hbw, yz⟩ := box2 w (.cells #[.int .i64 s.t, .int .i64 s.ser, .int .i64 s.win] 175) (.cells #[.int .i64 s.t, .int .i64 s.ser, .int .i64 s.win] 137)
  go_enter Tryz.func251, Tryz.ntmps251
  go_wp2_with fail
  refine bodyPost_ret (v := .agg #[.int .i64 s.t, .int .i64 s.ser, .int .i64 s.win]) (results_cell_row Tryz.results251 _ _ (w.heap.size + 1) _ _ _ _ rfl y1 Tryz.underlying137 rfl (by kernel_rfl)) rfl ?_
  exact ⟨rfl, hbw⟩
set_option maxHeartbeats 2000000 in
theorem keyOf_Roll (s : Sg) (w : World) : Calls Tryz.prog 87 #[.iface 175 (.agg #[.int .i64 s.t, .int .i64 s.ser, .int .i64 s.win])] w fun e w' => e = .returned (.agg #[.int .i64 1, .int .i64 s.t, .int .i64 s.ser, .int .i64 s.win]) ∧ Below w.heap.size w w' := by
  have b0 := rlast w (.cells #[.int .i64 0, .int .i64 0, .int .i64 0, .int .i64 0] 147)
  have bz := rsize w (.cells #[.int .i64 0, .int .i64 0, .int .i64 0, .int .i64 0] 147)
  have hb0 : Below w.heap.size w (w.alloc (.cells #[.int .i64 0, .int .i64 0, .int .i64 0, .int .i64 0] 147)) := (Below.refl _ _).alloc (Nat.le_refl _) _
  have HK := fun W => hide (kind_Roll s W)
  have HS := fun W => hide (segm_Roll s W)
  have B0 := hide b0
  have BZ := hide bz
  have HB0 := hide hb0
  clear b0 bz hb0
  have hm1 := meth_Roll_Kind s
  have hm2 := meth_Roll_Segment s
  go_enter Tryz.func87, Tryz.ntmps87
  go_wp2_with (first
    | (go_at_call 250; refine (ud (HK _)).mono ?_; rintro e w1 ⟨rfl, hb1⟩; have HB1 := hide hb1; clear hb1)
    | (go_at_call 251; refine (ud (HS _)).mono ?_; rintro e w2 ⟨rfl, hb2⟩; have hz0 : w.heap.size < (w.alloc (.cells #[.int .i64 0, .int .i64 0, .int .i64 0, .int .i64 0] 147)).heap.size := (by rw [ud BZ]; omega); have e2 := (hb2.block w.heap.size (Nat.lt_of_lt_of_le hz0 (ud HB1).size)).trans (((ud HB1).block w.heap.size hz0).trans (ud B0)); have y0 : w2.cell? ⟨w.heap.size, 0, none⟩ = some (.int .i64 0) := (by rw [rcell e2]; rfl); have y1 : w2.cell? ⟨w.heap.size, 1, none⟩ = some (.int .i64 0) := (by rw [rcell e2]; rfl); have y2 : w2.cell? ⟨w.heap.size, 2, none⟩ = some (.int .i64 0) := (by rw [rcell e2]; rfl); have y3 : w2.cell? ⟨w.heap.size, 3, none⟩ = some (.int .i64 0) := (by rw [rcell e2]; rfl); have yf := fun j => rfree e2 j; have hl2 := lt_of_heap e2; have E2 := hide e2; have HB2 := hide hb2; clear hb2 e2 hz0))
  have hf := rset (i := 3) (rset (i := 2) (rset (i := 1) (rset (i := 0) (ud E2) (.int .i64 1)) (.int .i64 s.t)) (.int .i64 s.ser)) (.int .i64 s.win)
  refine bodyPost_ret (v := .agg #[.int .i64 1, .int .i64 s.t, .int .i64 s.ser, .int .i64 s.win]) (results_cell_row Tryz.results87 _ _ w.heap.size _ _ _ _ rfl hf Tryz.underlying147 rfl (by kernel_rfl)) rfl ?_
  have hb := ud HB0
  have hb1 := ud HB1
  have hb2 := ud HB2
  exact ⟨rfl, (hb.trans (hb1.mono hb.size)).trans ((hb2.mono (Nat.le_trans hb.size hb1.size)).trans (below4 (Nat.le_refl _) _ _ _ _))⟩
theorem kind_Reclaim (s : Sg) (w : World) : Calls Tryz.prog 253 #[.agg #[.int .i64 s.t, .int .i64 s.ser, .int .i64 s.win]] w fun e w' => e = .returned (.int .i64 2) ∧ Below w.heap.size w w' := by
  go_enter Tryz.func253, Tryz.ntmps253
  go_wp2_with fail
  go_ret
  exact ⟨rfl, (Below.refl _ _).alloc (Nat.le_refl _) _⟩
set_option maxHeartbeats 1000000 in
theorem segm_Reclaim (s : Sg) (w : World) : Calls Tryz.prog 254 #[.agg #[.int .i64 s.t, .int .i64 s.ser, .int .i64 s.win]] w fun e w' => e = .returned (.agg #[.int .i64 s.t, .int .i64 s.ser, .int .i64 s.win]) ∧ Below w.heap.size w w' := by
  obtain ⟨y0, y1, hbw, yz⟩ := box2 w (.cells #[.int .i64 s.t, .int .i64 s.ser, .int .i64 s.win] 177) (.cells #[.int .i64 s.t, .int .i64 s.ser, .int .i64 s.win] 137)
  go_enter Tryz.func254, Tryz.ntmps254
  go_wp2_with fail
  refine bodyPost_ret (v := .agg #[.int .i64 s.t, .int .i64 s.ser, .int .i64 s.win]) (results_cell_row Tryz.results254 _ _ (w.heap.size + 1) _ _ _ _ rfl y1 Tryz.underlying137 rfl (by kernel_rfl)) rfl ?_
  exact ⟨rfl, hbw⟩
set_option maxHeartbeats 2000000 in
theorem keyOf_Reclaim (s : Sg) (w : World) : Calls Tryz.prog 87 #[.iface 177 (.agg #[.int .i64 s.t, .int .i64 s.ser, .int .i64 s.win])] w fun e w' => e = .returned (.agg #[.int .i64 2, .int .i64 s.t, .int .i64 s.ser, .int .i64 s.win]) ∧ Below w.heap.size w w' := by
  have b0 := rlast w (.cells #[.int .i64 0, .int .i64 0, .int .i64 0, .int .i64 0] 147)
  have bz := rsize w (.cells #[.int .i64 0, .int .i64 0, .int .i64 0, .int .i64 0] 147)
  have hb0 : Below w.heap.size w (w.alloc (.cells #[.int .i64 0, .int .i64 0, .int .i64 0, .int .i64 0] 147)) := (Below.refl _ _).alloc (Nat.le_refl _) _
  have HK := fun W => hide (kind_Reclaim s W)
  have HS := fun W => hide (segm_Reclaim s W)
  have B0 := hide b0
  have BZ := hide bz
  have HB0 := hide hb0
  clear b0 bz hb0
  have hm1 := meth_Reclaim_Kind s
  have hm2 := meth_Reclaim_Segment s
  go_enter Tryz.func87, Tryz.ntmps87
  go_wp2_with (first
    | (go_at_call 253; refine (ud (HK _)).mono ?_; rintro e w1 ⟨rfl, hb1⟩; have HB1 := hide hb1; clear hb1)
    | (go_at_call 254; refine (ud (HS _)).mono ?_; rintro e w2 ⟨rfl, hb2⟩; have hz0 : w.heap.size < (w.alloc (.cells #[.int .i64 0, .int .i64 0, .int .i64 0, .int .i64 0] 147)).heap.size := (by rw [ud BZ]; omega); have e2 := (hb2.block w.heap.size (Nat.lt_of_lt_of_le hz0 (ud HB1).size)).trans (((ud HB1).block w.heap.size hz0).trans (ud B0)); have y0 : w2.cell? ⟨w.heap.size, 0, none⟩ = some (.int .i64 0) := (by rw [rcell e2]; rfl); have y1 : w2.cell? ⟨w.heap.size, 1, none⟩ = some (.int .i64 0) := (by rw [rcell e2]; rfl); have y2 : w2.cell? ⟨w.heap.size, 2, none⟩ = some (.int .i64 0) := (by rw [rcell e2]; rfl); have y3 : w2.cell? ⟨w.heap.size, 3, none⟩ = some (.int .i64 0) := (by rw [rcell e2]; rfl); have yf := fun j => rfree e2 j; have hl2 := lt_of_heap e2; have E2 := hide e2; have HB2 := hide hb2; clear hb2 e2 hz0))
  have hf := rset (i := 3) (rset (i := 2) (rset (i := 1) (rset (i := 0) (ud E2) (.int .i64 2)) (.int .i64 s.t)) (.int .i64 s.ser)) (.int .i64 s.win)
  refine bodyPost_ret (v := .agg #[.int .i64 2, .int .i64 s.t, .int .i64 s.ser, .int .i64 s.win]) (results_cell_row Tryz.results87 _ _ w.heap.size _ _ _ _ rfl hf Tryz.underlying147 rfl (by kernel_rfl)) rfl ?_
  have hb := ud HB0
  have hb1 := ud HB1
  have hb2 := ud HB2
  exact ⟨rfl, (hb.trans (hb1.mono hb.size)).trans ((hb2.mono (Nat.le_trans hb.size hb1.size)).trans (below4 (Nat.le_refl _) _ _ _ _))⟩
theorem keyOf_any (x : Tsk) (w : World) : Calls Tryz.prog 87 #[.iface x.jt (.agg #[.int .i64 x.s.t, .int .i64 x.s.ser, .int .i64 x.s.win])] w fun e w' => e = .returned (.agg #[.int .i64 x.kd, .int .i64 x.s.t, .int .i64 x.s.ser, .int .i64 x.s.win]) ∧ Below w.heap.size w w' := by
  obtain ⟨rl, s, a, b, c⟩ := x
  cases rl with
  | true => exact keyOf_Roll s w
  | false => exact keyOf_Reclaim s w
theorem below_more {a w : World} (h : Below a.heap.size a w) (o : Obj) : Below a.heap.size a (w.alloc o) := h.alloc h.size o
theorem below4s {B : Nat} {w : World} {g : Nat} (h : B ≤ g) (a b c d : Value) : Below B w (set4s w g a b c d) := ((((Below.refl _ _).setCell (p := ⟨g, 0, none⟩) h _).setCell (p := ⟨g, 1, none⟩) h _).setCell (p := ⟨g, 2, none⟩) h _).setCell (p := ⟨g, 3, none⟩) h _
theorem bel_aa {n0 : Nat} {w V : World} (h : Below n0 w V) (h1 : n0 ≤ V.heap.size) (o o2 : Obj) : Below n0 w ((V.alloc o).alloc o2) := (h.alloc h1 o).alloc (by rw [rsize]; omega) o2
theorem bel_sa {n0 g : Nat} {w V : World} (h : Below n0 w V) (h1 : n0 ≤ V.heap.size) (h2 : n0 ≤ g) (a b c d : Value) (o : Obj) : Below n0 w ((set4s V g a b c d).alloc o) := (h.trans (below4s h2 a b c d)).alloc (by rw [size4s]; exact h1) o
theorem bel_as {n0 g : Nat} {w V : World} (h : Below n0 w V) (h1 : n0 ≤ V.heap.size) (h2 : n0 ≤ g) (a b c d : Value) (o : Obj) : Below n0 w (set4s (V.alloc o) g a b c d) := (h.alloc h1 o).trans (below4s h2 a b c d)
theorem bel_ss {n0 g k : Nat} {w V : World} (h : Below n0 w V) (h1 : n0 ≤ g) (h2 : n0 ≤ k) (a b c d a' b' c' d' : Value) : Below n0 w (set4s (set4s V g a b c d) k a' b' c' d') := (h.trans (below4s h1 a b c d)).trans (below4s h2 a' b' c' d')
set_option maxHeartbeats 8000000 in
theorem byKey_any (x y : Tsk) (w : World) :
    Calls Tryz.prog 91 #[.agg #[.iface x.jt (.agg #[.int .i64 x.s.t, .int .i64 x.s.ser, .int .i64 x.s.win]), .int .i64 x.since, .int .i64 x.tries, .int .i64 x.rest], .agg #[.iface y.jt (.agg #[.int .i64 y.s.t, .int .i64 y.s.ser, .int .i64 y.s.win]), .int .i64 y.since, .int .i64 y.tries, .int .i64 y.rest]] w fun e w' => e = .returned (.int .i64 (byKeyV x y)) ∧ Below w.heap.size w w' := by
  have HKX := fun W => hide (keyOf_any x W)
  have HKY := fun W => hide (keyOf_any y W)
  obtain ⟨b1, b2, hbw, bz⟩ := box2 w (.cells #[.iface x.jt (.agg #[.int .i64 x.s.t, .int .i64 x.s.ser, .int .i64 x.s.win]), .int .i64 x.since, .int .i64 x.tries, .int .i64 x.rest] 162) (.cells #[.iface y.jt (.agg #[.int .i64 y.s.t, .int .i64 y.s.ser, .int .i64 y.s.win]), .int .i64 y.since, .int .i64 y.tries, .int .i64 y.rest] 162)
  have x0 : ((w.alloc (.cells #[.iface x.jt (.agg #[.int .i64 x.s.t, .int .i64 x.s.ser, .int .i64 x.s.win]), .int .i64 x.since, .int .i64 x.tries, .int .i64 x.rest] 162)).alloc (.cells #[.iface y.jt (.agg #[.int .i64 y.s.t, .int .i64 y.s.ser, .int .i64 y.s.win]), .int .i64 y.since, .int .i64 y.tries, .int .i64 y.rest] 162)).cell? ⟨w.heap.size, 0, none⟩ = some (.iface x.jt (.agg #[.int .i64 x.s.t, .int .i64 x.s.ser, .int .i64 x.s.win])) := by rw [rcell b1]; rfl
  have y0 : ((w.alloc (.cells #[.iface x.jt (.agg #[.int .i64 x.s.t, .int .i64 x.s.ser, .int .i64 x.s.win]), .int .i64 x.since, .int .i64 x.tries, .int .i64 x.rest] 162)).alloc (.cells #[.iface y.jt (.agg #[.int .i64 y.s.t, .int .i64 y.s.ser, .int .i64 y.s.win]), .int .i64 y.since, .int .i64 y.tries, .int .i64 y.rest] 162)).cell? ⟨w.heap.size + 1, 0, none⟩ = some (.iface y.jt (.agg #[.int .i64 y.s.t, .int .i64 y.s.ser, .int .i64 y.s.win])) := by rw [rcell b2]; rfl
  have HBW := hide hbw
  clear b1 b2 hbw
  go_enter Tryz.func91, Tryz.ntmps91
  go_wp2_with fail
  generalize ((w.alloc (.cells #[.iface x.jt (.agg #[.int .i64 x.s.t, .int .i64 x.s.ser, .int .i64 x.s.win]), .int .i64 x.since, .int .i64 x.tries, .int .i64 x.rest] 162)).alloc (.cells #[.iface y.jt (.agg #[.int .i64 y.s.t, .int .i64 y.s.ser, .int .i64 y.s.win]), .int .i64 y.since, .int .i64 y.tries, .int .i64 y.rest] 162)) = X at *
  have l0 : w.heap.size < X.heap.size := by omega
  have l1 : w.heap.size + 1 < X.heap.size := by omega
  have n01 : ¬ w.heap.size = w.heap.size + 1 := by omega
  generalize w.heap.size + 1 = n1 at *
  generalize hn0 : w.heap.size = n0 at *
  clear bz
  rename_i Q1 K1 hK1
  have HR2' : ∀ (bj bk : Nat) (Y : World), Y.heap[bj]? = some (.cells #[.int .i64 x.kd, .int .i64 x.s.t, .int .i64 x.s.ser, .int .i64 x.s.win] 147 (0, 0)) → Y.heap[bk]? = some (.cells #[.int .i64 y.kd, .int .i64 y.s.t, .int .i64 y.s.ser, .int .i64 y.s.win] 147 (0, 0)) → Below n0 w Y → K1 { tmps := #[.agg #[.iface x.jt (.agg #[.int .i64 x.s.t, .int .i64 x.s.ser, .int .i64 x.s.win]), .int .i64 x.since, .int .i64 x.tries, .int .i64 x.rest], .agg #[.iface y.jt (.agg #[.int .i64 y.s.t, .int .i64 y.s.ser, .int .i64 y.s.win]), .int .i64 y.since, .int .i64 y.tries, .int .i64 y.rest], .pointer (some ⟨n0, 0, none⟩), .pointer (some ⟨n1, 0, none⟩), .int .i64 0, .pointer (some ⟨bj, 0, none⟩), .pointer (some ⟨bk, 0, none⟩), .pointer (some ⟨n0, 0, none⟩), .iface x.jt (.agg #[.int .i64 x.s.t, .int .i64 x.s.ser, .int .i64 x.s.win]), .agg #[.int .i64 x.kd, .int .i64 x.s.t, .int .i64 x.s.ser, .int .i64 x.s.win], .pointer (some ⟨n1, 0, none⟩), .iface y.jt (.agg #[.int .i64 y.s.t, .int .i64 y.s.ser, .int .i64 y.s.win]), .agg #[.int .i64 y.kd, .int .i64 y.s.t, .int .i64 y.s.ser, .int .i64 y.s.win], undef, undef, undef, undef, undef, undef, undef, undef, undef, undef, undef, undef, undef, undef, undef, undef, undef, undef, undef, undef, undef, undef, undef, undef, undef, undef, undef, undef], defers := [] } Y := by
    intro bj bk Y hj hk hY
    apply hK1
    clear HKX HKY x0 y0 l0 l1 HBW hK1
    have HY := hide hY
    clear hY
    have HCM := fun (a b : Int) W => hide (compare64_any a b W)
    have HOR : ∀ W : World, W.heap[Y.heap.size]? = some (.cells #[.int .i64 (cmpJ x.kd y.kd), .int .i64 (cmpJ x.s.t y.s.t), .int .i64 (cmpJ x.s.ser y.s.ser), .int .i64 (cmpJ x.s.win y.s.win)] 3) → Hid (Calls Tryz.prog 138 #[.slice (some ⟨Y.heap.size, 0, none⟩) 4 4] W fun e w' => e = .returned (.int .i64 (byKeyV x y)) ∧ w' = W) := fun W hW =>
      or_any [cmpJ x.kd y.kd, cmpJ x.s.t y.s.t, cmpJ x.s.ser y.s.ser, cmpJ x.s.win y.s.win] (by simp) W Y.heap.size (fun k v hk => by
        rw [rcell hW]
        match k, hk with
        | 0, hk => simp at hk; subst hk; rfl
        | 1, hk => simp at hk; subst hk; rfl
        | 2, hk => simp at hk; subst hk; rfl
        | 3, hk => simp at hk; subst hk; rfl)
    have HO0 := HOR (Y.alloc (.cells #[.int .i64 (cmpJ x.kd y.kd), .int .i64 (cmpJ x.s.t y.s.t), .int .i64 (cmpJ x.s.ser y.s.ser), .int .i64 (cmpJ x.s.win y.s.win)] 3)) (rlast _ _)
    have HO1 := HOR (Y.alloc (.cells #[.int .i64 (cmpJ x.kd y.kd), .int .i64 (cmpJ x.s.t y.s.t), .int .i64 (cmpJ x.s.ser y.s.ser), .int .i64 (cmpJ x.s.win y.s.win)] 3)).drew (rlast _ _)
    have HO2 := HOR (Y.drew.alloc (.cells #[.int .i64 (cmpJ x.kd y.kd), .int .i64 (cmpJ x.s.t y.s.t), .int .i64 (cmpJ x.s.ser y.s.ser), .int .i64 (cmpJ x.s.win y.s.win)] 3)) (rlast Y.drew _)
    have j0 : Y.cell? ⟨bj, 0, none⟩ = some (.int .i64 x.kd) := by rw [rcell hj]; rfl
    have j1 : Y.cell? ⟨bj, 1, none⟩ = some (.int .i64 x.s.t) := by rw [rcell hj]; rfl
    have j2 : Y.cell? ⟨bj, 2, none⟩ = some (.int .i64 x.s.ser) := by rw [rcell hj]; rfl
    have j3 : Y.cell? ⟨bj, 3, none⟩ = some (.int .i64 x.s.win) := by rw [rcell hj]; rfl
    have k0 : Y.cell? ⟨bk, 0, none⟩ = some (.int .i64 y.kd) := by rw [rcell hk]; rfl
    have k1 : Y.cell? ⟨bk, 1, none⟩ = some (.int .i64 y.s.t) := by rw [rcell hk]; rfl
    have k2 : Y.cell? ⟨bk, 2, none⟩ = some (.int .i64 y.s.ser) := by rw [rcell hk]; rfl
    have k3 : Y.cell? ⟨bk, 3, none⟩ = some (.int .i64 y.s.win) := by rw [rcell hk]; rfl
    have ljY := lt_of_heap hj
    have lkY := lt_of_heap hk
    clear hj hk HOR
    generalize hBV : byKeyV x y = BV at *
    have HBV := hide hBV
    clear hBV
    generalize hc0 : cmpJ x.kd y.kd = C0 at *
    generalize hc1 : cmpJ x.s.t y.s.t = C1 at *
    generalize hc2 : cmpJ x.s.ser y.s.ser = C2 at *
    generalize hc3 : cmpJ x.s.win y.s.win = C3 at *
    go_wp2_with fail
    go_region_held3 (fun w' => w'.cell? ⟨bj, 0, none⟩ = some (.int .i64 x.kd) ∧ w'.cell? ⟨bj, 1, none⟩ = some (.int .i64 x.s.t) ∧ w'.cell? ⟨bj, 2, none⟩ = some (.int .i64 x.s.ser) ∧ w'.cell? ⟨bj, 3, none⟩ = some (.int .i64 x.s.win) ∧ w'.cell? ⟨bk, 0, none⟩ = some (.int .i64 y.kd) ∧ w'.cell? ⟨bk, 1, none⟩ = some (.int .i64 y.s.t) ∧ w'.cell? ⟨bk, 2, none⟩ = some (.int .i64 y.s.ser) ∧ w'.cell? ⟨bk, 3, none⟩ = some (.int .i64 y.s.win)) (go_keep) (first
      | (go_at_call 137; (with_reducible refine (ud (HCM _ _ _)).mono ?_); rintro e V ⟨rfl, rfl⟩)
      | (go_at_call 138; (first | (with_reducible refine (ud HO0).mono ?_) | (with_reducible refine (ud HO1).mono ?_) | (with_reducible refine (ud HO2).mono ?_)); rintro e V ⟨rfl, rfl⟩))
    go_wp2_with fail
    go_ret
    have hY := ud HY
    exact ⟨by rw [ud HBV]; rfl, by rw [hn0]; exact (hY.alloc (by have := hY.size; omega) _).drew⟩
  have HR2 := hide HR2'
  clear hK1 HR2'
  go_region_held3 (fun w' => w'.cell? ⟨n0, 0, none⟩ = some (.iface x.jt (.agg #[.int .i64 x.s.t, .int .i64 x.s.ser, .int .i64 x.s.win])) ∧ w'.cell? ⟨n1, 0, none⟩ = some (.iface y.jt (.agg #[.int .i64 y.s.t, .int .i64 y.s.ser, .int .i64 y.s.win]))) (go_keep) (first
    | (go_at_call 87; (with_reducible refine (ud (HKX _)).mono ?_); rintro e V1 ⟨rfl, hbV1⟩; have uaq : V1.heap[X.heap.size]? = some (.cells #[.int .i64 0, .int .i64 0, .int .i64 0, .int .i64 0] 147 (0, 0)) := (hbV1.block _ (by first | (simp; done) | (simp; omega))).trans (fresh2a _ _ _); have ubq : V1.heap[X.heap.size + 1]? = some (.cells #[.int .i64 0, .int .i64 0, .int .i64 0, .int .i64 0] 147 (0, 0)) := (hbV1.block _ (by simp)).trans (fresh2b _ _ _); have ua0 : V1.cell? ⟨X.heap.size, 0, none⟩ = some (.int .i64 0) := (by rw [rcell uaq]; rfl); have ua1 : V1.cell? ⟨X.heap.size, 1, none⟩ = some (.int .i64 0) := (by rw [rcell uaq]; rfl); have ua2 : V1.cell? ⟨X.heap.size, 2, none⟩ = some (.int .i64 0) := (by rw [rcell uaq]; rfl); have ua3 : V1.cell? ⟨X.heap.size, 3, none⟩ = some (.int .i64 0) := (by rw [rcell uaq]; rfl); have uaf := fun j => rfree uaq j; have ual := lt_of_heap uaq; have uan0 : ¬ n0 = X.heap.size := (by omega); have uam0 : ¬ X.heap.size = n0 := (by omega); have uan1 : ¬ n1 = X.heap.size := (by omega); have uam1 : ¬ X.heap.size = n1 := (by omega); have ub0 : V1.cell? ⟨X.heap.size + 1, 0, none⟩ = some (.int .i64 0) := (by rw [rcell ubq]; rfl); have ub1 : V1.cell? ⟨X.heap.size + 1, 1, none⟩ = some (.int .i64 0) := (by rw [rcell ubq]; rfl); have ub2 : V1.cell? ⟨X.heap.size + 1, 2, none⟩ = some (.int .i64 0) := (by rw [rcell ubq]; rfl); have ub3 : V1.cell? ⟨X.heap.size + 1, 3, none⟩ = some (.int .i64 0) := (by rw [rcell ubq]; rfl); have ubf := fun j => rfree ubq j; have ubl := lt_of_heap ubq; have ubn0 : ¬ n0 = X.heap.size + 1 := (by omega); have ubm0 : ¬ X.heap.size + 1 = n0 := (by omega); have ubn1 : ¬ n1 = X.heap.size + 1 := (by omega); have ubm1 : ¬ X.heap.size + 1 = n1 := (by omega); have ubn2 : ¬ X.heap.size = X.heap.size + 1 := (by omega); have ubm2 : ¬ X.heap.size + 1 = X.heap.size := (by omega); have UAQ := hide uaq; have UBQ := hide ubq; clear uaq; clear ubq; have hX1 : Below X.heap.size X V1 := Below.trans (b := _) (by (repeat (first | exact Below.refl _ _ | assumption | apply Below.drew | apply below_more))) (hbV1.mono (by first | exact Nat.le_refl _ | (simp; done) | (simp; omega))); have x1 := (hX1.cell (p := ⟨n0, 0, none⟩) l0).trans x0; have y1 := (hX1.cell (p := ⟨n1, 0, none⟩) l1).trans y0; have l01 := Nat.lt_of_lt_of_le l0 hX1.size; have l11 := Nat.lt_of_lt_of_le l1 hX1.size; have HX1 := hide hX1; clear hbV1 hX1)
    | (go_at_call 87; (with_reducible refine (ud (HKX _)).mono ?_); rintro e V1 ⟨rfl, hbV1⟩; have uaq : V1.heap[X.heap.size]? = some (.cells #[.int .i64 0, .int .i64 0, .int .i64 0, .int .i64 0] 147 (0, 0)) := (hbV1.block _ (by simp)).trans (fresh1 _ _); have ua0 : V1.cell? ⟨X.heap.size, 0, none⟩ = some (.int .i64 0) := (by rw [rcell uaq]; rfl); have ua1 : V1.cell? ⟨X.heap.size, 1, none⟩ = some (.int .i64 0) := (by rw [rcell uaq]; rfl); have ua2 : V1.cell? ⟨X.heap.size, 2, none⟩ = some (.int .i64 0) := (by rw [rcell uaq]; rfl); have ua3 : V1.cell? ⟨X.heap.size, 3, none⟩ = some (.int .i64 0) := (by rw [rcell uaq]; rfl); have uaf := fun j => rfree uaq j; have ual := lt_of_heap uaq; have uan0 : ¬ n0 = X.heap.size := (by omega); have uam0 : ¬ X.heap.size = n0 := (by omega); have uan1 : ¬ n1 = X.heap.size := (by omega); have uam1 : ¬ X.heap.size = n1 := (by omega); have UAQ := hide uaq; clear uaq; have hX1 : Below X.heap.size X V1 := Below.trans (b := _) (by (repeat (first | exact Below.refl _ _ | assumption | apply Below.drew | apply below_more))) (hbV1.mono (by first | exact Nat.le_refl _ | (simp; done) | (simp; omega))); have x1 := (hX1.cell (p := ⟨n0, 0, none⟩) l0).trans x0; have y1 := (hX1.cell (p := ⟨n1, 0, none⟩) l1).trans y0; have l01 := Nat.lt_of_lt_of_le l0 hX1.size; have l11 := Nat.lt_of_lt_of_le l1 hX1.size; have HX1 := hide hX1; clear hbV1 hX1)
    | (go_at_call 87; (with_reducible refine (ud (HKX _)).mono ?_); rintro e V1 ⟨rfl, hbV1⟩; have hX1 : Below X.heap.size X V1 := Below.trans (b := _) (by (repeat (first | exact Below.refl _ _ | assumption | apply Below.drew | apply below_more))) (hbV1.mono (by first | exact Nat.le_refl _ | (simp; done) | (simp; omega))); have x1 := (hX1.cell (p := ⟨n0, 0, none⟩) l0).trans x0; have y1 := (hX1.cell (p := ⟨n1, 0, none⟩) l1).trans y0; have l01 := Nat.lt_of_lt_of_le l0 hX1.size; have l11 := Nat.lt_of_lt_of_le l1 hX1.size; have HX1 := hide hX1; clear hbV1 hX1)
    | (go_at_call 87; (with_reducible refine (ud (HKY _)).mono ?_); rintro e V2 ⟨rfl, hbV2⟩; have hV12 : Below V1.heap.size V1 V2 := Below.trans (b := _) (by (repeat (first | exact Below.refl _ _ | assumption | apply Below.drew | apply below_more))) (hbV2.mono (by first | exact Nat.le_refl _ | (simp; done) | (simp; omega))); have uaq' := (hV12.block _ (lt_of_heap (ud UAQ))).trans (ud UAQ); have uav0 : V2.cell? ⟨X.heap.size, 0, none⟩ = some (.int .i64 0) := (by rw [rcell uaq']; rfl); have uav1 : V2.cell? ⟨X.heap.size, 1, none⟩ = some (.int .i64 0) := (by rw [rcell uaq']; rfl); have uav2 : V2.cell? ⟨X.heap.size, 2, none⟩ = some (.int .i64 0) := (by rw [rcell uaq']; rfl); have uav3 : V2.cell? ⟨X.heap.size, 3, none⟩ = some (.int .i64 0) := (by rw [rcell uaq']; rfl); have uavf := fun j => rfree uaq' j; have uavl := lt_of_heap uaq'; have uavn0 : ¬ n0 = X.heap.size := (by omega); have uavm0 : ¬ X.heap.size = n0 := (by omega); have uavn1 : ¬ n1 = X.heap.size := (by omega); have uavm1 : ¬ X.heap.size = n1 := (by omega); have UAV := hide uaq'; clear uaq'; have ubq' := (hV12.block _ (lt_of_heap (ud UBQ))).trans (ud UBQ); have ubv0 : V2.cell? ⟨X.heap.size + 1, 0, none⟩ = some (.int .i64 0) := (by rw [rcell ubq']; rfl); have ubv1 : V2.cell? ⟨X.heap.size + 1, 1, none⟩ = some (.int .i64 0) := (by rw [rcell ubq']; rfl); have ubv2 : V2.cell? ⟨X.heap.size + 1, 2, none⟩ = some (.int .i64 0) := (by rw [rcell ubq']; rfl); have ubv3 : V2.cell? ⟨X.heap.size + 1, 3, none⟩ = some (.int .i64 0) := (by rw [rcell ubq']; rfl); have ubvf := fun j => rfree ubq' j; have ubvl := lt_of_heap ubq'; have ubvn0 : ¬ n0 = X.heap.size + 1 := (by omega); have ubvm0 : ¬ X.heap.size + 1 = n0 := (by omega); have ubvn1 : ¬ n1 = X.heap.size + 1 := (by omega); have ubvm1 : ¬ X.heap.size + 1 = n1 := (by omega); have ubvn2 : ¬ X.heap.size = X.heap.size + 1 := (by omega); have ubvm2 : ¬ X.heap.size + 1 = X.heap.size := (by omega); have UBV := hide ubq'; clear ubq'; have hX2 : Below X.heap.size X V2 := (ud HX1).trans (hV12.mono (ud HX1).size); have x2 := (hX2.cell (p := ⟨n0, 0, none⟩) l0).trans x0; have y2 := (hX2.cell (p := ⟨n1, 0, none⟩) l1).trans y0; have l02 := Nat.lt_of_lt_of_le l0 hX2.size; have l12 := Nat.lt_of_lt_of_le l1 hX2.size; have HX2 := hide hX2; clear hbV2 hX2 hV12)
    | (go_at_call 87; (with_reducible refine (ud (HKY _)).mono ?_); rintro e V2 ⟨rfl, hbV2⟩; have vaq : V2.heap[V1.heap.size]? = some (.cells #[.int .i64 0, .int .i64 0, .int .i64 0, .int .i64 0] 147 (0, 0)) := (hbV2.block _ (by simp)).trans (fresh1 _ _); have va0 : V2.cell? ⟨V1.heap.size, 0, none⟩ = some (.int .i64 0) := (by rw [rcell vaq]; rfl); have va1 : V2.cell? ⟨V1.heap.size, 1, none⟩ = some (.int .i64 0) := (by rw [rcell vaq]; rfl); have va2 : V2.cell? ⟨V1.heap.size, 2, none⟩ = some (.int .i64 0) := (by rw [rcell vaq]; rfl); have va3 : V2.cell? ⟨V1.heap.size, 3, none⟩ = some (.int .i64 0) := (by rw [rcell vaq]; rfl); have vaf := fun j => rfree vaq j; have val := lt_of_heap vaq; have van0 : ¬ n0 = V1.heap.size := (by omega); have vam0 : ¬ V1.heap.size = n0 := (by omega); have van1 : ¬ n1 = V1.heap.size := (by omega); have vam1 : ¬ V1.heap.size = n1 := (by omega); have van2 : ¬ X.heap.size = V1.heap.size := (by omega); have vam2 : ¬ V1.heap.size = X.heap.size := (by omega); have VAQ := hide vaq; clear vaq; have hV12 : Below V1.heap.size V1 V2 := Below.trans (b := _) (by (repeat (first | exact Below.refl _ _ | assumption | apply Below.drew | apply below_more))) (hbV2.mono (by first | exact Nat.le_refl _ | (simp; done) | (simp; omega))); have uaq' := (hV12.block _ (lt_of_heap (ud UAQ))).trans (ud UAQ); have uav0 : V2.cell? ⟨X.heap.size, 0, none⟩ = some (.int .i64 0) := (by rw [rcell uaq']; rfl); have uav1 : V2.cell? ⟨X.heap.size, 1, none⟩ = some (.int .i64 0) := (by rw [rcell uaq']; rfl); have uav2 : V2.cell? ⟨X.heap.size, 2, none⟩ = some (.int .i64 0) := (by rw [rcell uaq']; rfl); have uav3 : V2.cell? ⟨X.heap.size, 3, none⟩ = some (.int .i64 0) := (by rw [rcell uaq']; rfl); have uavf := fun j => rfree uaq' j; have uavl := lt_of_heap uaq'; have uavn0 : ¬ n0 = X.heap.size := (by omega); have uavm0 : ¬ X.heap.size = n0 := (by omega); have uavn1 : ¬ n1 = X.heap.size := (by omega); have uavm1 : ¬ X.heap.size = n1 := (by omega); have UAV := hide uaq'; clear uaq'; have hX2 : Below X.heap.size X V2 := (ud HX1).trans (hV12.mono (ud HX1).size); have x2 := (hX2.cell (p := ⟨n0, 0, none⟩) l0).trans x0; have y2 := (hX2.cell (p := ⟨n1, 0, none⟩) l1).trans y0; have l02 := Nat.lt_of_lt_of_le l0 hX2.size; have l12 := Nat.lt_of_lt_of_le l1 hX2.size; have HX2 := hide hX2; clear hbV2 hX2 hV12)
    | (go_at_call 87; (with_reducible refine (ud (HKY _)).mono ?_); rintro e V2 ⟨rfl, hbV2⟩; have hV12 : Below V1.heap.size V1 V2 := Below.trans (b := _) (by (repeat (first | exact Below.refl _ _ | assumption | apply Below.drew | apply below_more))) (hbV2.mono (by first | exact Nat.le_refl _ | (simp; done) | (simp; omega))); have uaq' := (hV12.block _ (lt_of_heap (ud UAQ))).trans (ud UAQ); have uav0 : V2.cell? ⟨X.heap.size, 0, none⟩ = some (.int .i64 0) := (by rw [rcell uaq']; rfl); have uav1 : V2.cell? ⟨X.heap.size, 1, none⟩ = some (.int .i64 0) := (by rw [rcell uaq']; rfl); have uav2 : V2.cell? ⟨X.heap.size, 2, none⟩ = some (.int .i64 0) := (by rw [rcell uaq']; rfl); have uav3 : V2.cell? ⟨X.heap.size, 3, none⟩ = some (.int .i64 0) := (by rw [rcell uaq']; rfl); have uavf := fun j => rfree uaq' j; have uavl := lt_of_heap uaq'; have uavn0 : ¬ n0 = X.heap.size := (by omega); have uavm0 : ¬ X.heap.size = n0 := (by omega); have uavn1 : ¬ n1 = X.heap.size := (by omega); have uavm1 : ¬ X.heap.size = n1 := (by omega); have UAV := hide uaq'; clear uaq'; have hX2 : Below X.heap.size X V2 := (ud HX1).trans (hV12.mono (ud HX1).size); have x2 := (hX2.cell (p := ⟨n0, 0, none⟩) l0).trans x0; have y2 := (hX2.cell (p := ⟨n1, 0, none⟩) l1).trans y0; have l02 := Nat.lt_of_lt_of_le l0 hX2.size; have l12 := Nat.lt_of_lt_of_le l1 hX2.size; have HX2 := hide hX2; clear hbV2 hX2 hV12)
    | (go_at_call 87; (with_reducible refine (ud (HKY _)).mono ?_); rintro e V2 ⟨rfl, hbV2⟩; have vaq : V2.heap[V1.heap.size]? = some (.cells #[.int .i64 0, .int .i64 0, .int .i64 0, .int .i64 0] 147 (0, 0)) := (hbV2.block _ (by first | (simp; done) | (simp; omega))).trans (fresh2a _ _ _); have vbq : V2.heap[V1.heap.size + 1]? = some (.cells #[.int .i64 0, .int .i64 0, .int .i64 0, .int .i64 0] 147 (0, 0)) := (hbV2.block _ (by simp)).trans (fresh2b _ _ _); have va0 : V2.cell? ⟨V1.heap.size, 0, none⟩ = some (.int .i64 0) := (by rw [rcell vaq]; rfl); have va1 : V2.cell? ⟨V1.heap.size, 1, none⟩ = some (.int .i64 0) := (by rw [rcell vaq]; rfl); have va2 : V2.cell? ⟨V1.heap.size, 2, none⟩ = some (.int .i64 0) := (by rw [rcell vaq]; rfl); have va3 : V2.cell? ⟨V1.heap.size, 3, none⟩ = some (.int .i64 0) := (by rw [rcell vaq]; rfl); have vaf := fun j => rfree vaq j; have val := lt_of_heap vaq; have van0 : ¬ n0 = V1.heap.size := (by omega); have vam0 : ¬ V1.heap.size = n0 := (by omega); have van1 : ¬ n1 = V1.heap.size := (by omega); have vam1 : ¬ V1.heap.size = n1 := (by omega); have vb0 : V2.cell? ⟨V1.heap.size + 1, 0, none⟩ = some (.int .i64 0) := (by rw [rcell vbq]; rfl); have vb1 : V2.cell? ⟨V1.heap.size + 1, 1, none⟩ = some (.int .i64 0) := (by rw [rcell vbq]; rfl); have vb2 : V2.cell? ⟨V1.heap.size + 1, 2, none⟩ = some (.int .i64 0) := (by rw [rcell vbq]; rfl); have vb3 : V2.cell? ⟨V1.heap.size + 1, 3, none⟩ = some (.int .i64 0) := (by rw [rcell vbq]; rfl); have vbf := fun j => rfree vbq j; have vbl := lt_of_heap vbq; have vbn0 : ¬ n0 = V1.heap.size + 1 := (by omega); have vbm0 : ¬ V1.heap.size + 1 = n0 := (by omega); have vbn1 : ¬ n1 = V1.heap.size + 1 := (by omega); have vbm1 : ¬ V1.heap.size + 1 = n1 := (by omega); have vbn2 : ¬ V1.heap.size = V1.heap.size + 1 := (by omega); have vbm2 : ¬ V1.heap.size + 1 = V1.heap.size := (by omega); have VAQ := hide vaq; have VBQ := hide vbq; clear vaq; clear vbq; have hV12 : Below V1.heap.size V1 V2 := Below.trans (b := _) (by (repeat (first | exact Below.refl _ _ | assumption | apply Below.drew | apply below_more))) (hbV2.mono (by first | exact Nat.le_refl _ | (simp; done) | (simp; omega))); have hX2 : Below X.heap.size X V2 := (ud HX1).trans (hV12.mono (ud HX1).size); have x2 := (hX2.cell (p := ⟨n0, 0, none⟩) l0).trans x0; have y2 := (hX2.cell (p := ⟨n1, 0, none⟩) l1).trans y0; have l02 := Nat.lt_of_lt_of_le l0 hX2.size; have l12 := Nat.lt_of_lt_of_le l1 hX2.size; have HX2 := hide hX2; clear hbV2 hX2 hV12)
    | (go_at_call 87; (with_reducible refine (ud (HKY _)).mono ?_); rintro e V2 ⟨rfl, hbV2⟩; have vaq : V2.heap[V1.heap.size]? = some (.cells #[.int .i64 0, .int .i64 0, .int .i64 0, .int .i64 0] 147 (0, 0)) := (hbV2.block _ (by simp)).trans (fresh1 _ _); have va0 : V2.cell? ⟨V1.heap.size, 0, none⟩ = some (.int .i64 0) := (by rw [rcell vaq]; rfl); have va1 : V2.cell? ⟨V1.heap.size, 1, none⟩ = some (.int .i64 0) := (by rw [rcell vaq]; rfl); have va2 : V2.cell? ⟨V1.heap.size, 2, none⟩ = some (.int .i64 0) := (by rw [rcell vaq]; rfl); have va3 : V2.cell? ⟨V1.heap.size, 3, none⟩ = some (.int .i64 0) := (by rw [rcell vaq]; rfl); have vaf := fun j => rfree vaq j; have val := lt_of_heap vaq; have van0 : ¬ n0 = V1.heap.size := (by omega); have vam0 : ¬ V1.heap.size = n0 := (by omega); have van1 : ¬ n1 = V1.heap.size := (by omega); have vam1 : ¬ V1.heap.size = n1 := (by omega); have VAQ := hide vaq; clear vaq; have hV12 : Below V1.heap.size V1 V2 := Below.trans (b := _) (by (repeat (first | exact Below.refl _ _ | assumption | apply Below.drew | apply below_more))) (hbV2.mono (by first | exact Nat.le_refl _ | (simp; done) | (simp; omega))); have hX2 : Below X.heap.size X V2 := (ud HX1).trans (hV12.mono (ud HX1).size); have x2 := (hX2.cell (p := ⟨n0, 0, none⟩) l0).trans x0; have y2 := (hX2.cell (p := ⟨n1, 0, none⟩) l1).trans y0; have l02 := Nat.lt_of_lt_of_le l0 hX2.size; have l12 := Nat.lt_of_lt_of_le l1 hX2.size; have HX2 := hide hX2; clear hbV2 hX2 hV12)
    | (go_at_call 87; (with_reducible refine (ud (HKY _)).mono ?_); rintro e V2 ⟨rfl, hbV2⟩; have hV12 : Below V1.heap.size V1 V2 := Below.trans (b := _) (by (repeat (first | exact Below.refl _ _ | assumption | apply Below.drew | apply below_more))) (hbV2.mono (by first | exact Nat.le_refl _ | (simp; done) | (simp; omega))); have hX2 : Below X.heap.size X V2 := (ud HX1).trans (hV12.mono (ud HX1).size); have x2 := (hX2.cell (p := ⟨n0, 0, none⟩) l0).trans x0; have y2 := (hX2.cell (p := ⟨n1, 0, none⟩) l1).trans y0; have l02 := Nat.lt_of_lt_of_le l0 hX2.size; have l12 := Nat.lt_of_lt_of_le l1 hX2.size; have HX2 := hide hX2; clear hbV2 hX2 hV12))
  all_goals show K1 _ _
  all_goals (have hB := (ud HBW).trans ((ud HX2).mono (show n0 ≤ X.heap.size by omega)); have hs2 := (ud HX2).size; have hs1 := (ud HX1).size)
  all_goals try clear uan0
  all_goals try clear uan1
  all_goals try clear uan2
  all_goals try clear uan3
  all_goals try clear uan4
  all_goals try clear uam0
  all_goals try clear uam1
  all_goals try clear uam2
  all_goals try clear uam3
  all_goals try clear uam4
  all_goals try clear ubn0
  all_goals try clear ubn1
  all_goals try clear ubn2
  all_goals try clear ubn3
  all_goals try clear ubn4
  all_goals try clear ubm0
  all_goals try clear ubm1
  all_goals try clear ubm2
  all_goals try clear ubm3
  all_goals try clear ubm4
  all_goals try clear van0
  all_goals try clear van1
  all_goals try clear van2
  all_goals try clear van3
  all_goals try clear van4
  all_goals try clear vam0
  all_goals try clear vam1
  all_goals try clear vam2
  all_goals try clear vam3
  all_goals try clear vam4
  all_goals try clear vbn0
  all_goals try clear vbn1
  all_goals try clear vbn2
  all_goals try clear vbn3
  all_goals try clear vbn4
  all_goals try clear vbm0
  all_goals try clear vbm1
  all_goals try clear vbm2
  all_goals try clear vbm3
  all_goals try clear vbm4
  all_goals try clear uavn0
  all_goals try clear uavn1
  all_goals try clear uavn2
  all_goals try clear uavn3
  all_goals try clear uavn4
  all_goals try clear uavm0
  all_goals try clear uavm1
  all_goals try clear uavm2
  all_goals try clear uavm3
  all_goals try clear uavm4
  all_goals try clear ubvn0
  all_goals try clear ubvn1
  all_goals try clear ubvn2
  all_goals try clear ubvn3
  all_goals try clear ubvn4
  all_goals try clear ubvm0
  all_goals try clear ubvm1
  all_goals try clear ubvm2
  all_goals try clear ubvm3
  all_goals try clear ubvm4
  all_goals try clear n01
  all_goals (with_reducible refine ud HR2 _ _ _ ?_ ?_ ?_)
  all_goals (try have hlVAQ := lt_of_heap (ud VAQ))
  all_goals (try have hlVBQ := lt_of_heap (ud VBQ))
  all_goals (try have hlUAV := lt_of_heap (ud UAV))
  all_goals (try have hlUBV := lt_of_heap (ud UBV))
  all_goals (first
    | (with_reducible exact fresh2a _ _ _)
    | (with_reducible exact fresh2b _ _ _)
    | (with_reducible exact new_old _ _ _ _ _ _ _)
    | (with_reducible exact old_new (ud VAQ) _ _ _ _ _)
    | (with_reducible exact old_set (ud VAQ) _ _ _ _ _)
    | (with_reducible exact old_new (ud VBQ) _ _ _ _ _)
    | (with_reducible exact old_set (ud VBQ) _ _ _ _ _)
    | (with_reducible exact old_new (ud UAV) _ _ _ _ _)
    | (with_reducible exact old_set (ud UAV) _ _ _ _ _)
    | (with_reducible exact old_new (ud UBV) _ _ _ _ _)
    | (with_reducible exact old_set (ud UBV) _ _ _ _ _)
    | (with_reducible exact new_set (by omega) _ _ _ _ _)
    | (with_reducible exact two_fst (by omega) (ud VAQ) _ _ _ _ _ _ _ _)
    | (with_reducible exact two_snd (by omega) (ud VAQ) _ _ _ _ _ _ _ _)
    | (with_reducible exact two_fst (by omega) (ud VBQ) _ _ _ _ _ _ _ _)
    | (with_reducible exact two_snd (by omega) (ud VBQ) _ _ _ _ _ _ _ _)
    | (with_reducible exact two_fst (by omega) (ud UAV) _ _ _ _ _ _ _ _)
    | (with_reducible exact two_snd (by omega) (ud UAV) _ _ _ _ _ _ _ _)
    | (with_reducible exact two_fst (by omega) (ud UBV) _ _ _ _ _ _ _ _)
    | (with_reducible exact two_snd (by omega) (ud UBV) _ _ _ _ _ _ _ _)
    | ((with_reducible refine bel_aa hB ?_ _ _) <;> omega)
    | ((with_reducible refine bel_sa hB ?_ ?_ _ _ _ _ _) <;> omega)
    | ((with_reducible refine bel_as hB ?_ ?_ _ _ _ _ _) <;> omega)
    | ((with_reducible refine bel_ss hB ?_ ?_ _ _ _ _ _ _ _ _) <;> omega))
end Go.Proofs.YtpbimdkclnekeaaGreat.Dr
namespace Go.Proofs.YtpbimdkclnekeaaGreat
open Go.RowKit Go.Maps Go.Shelf
theorem byKey_any (x y : Tsk) (w : World) :
    Calls Tryz.prog 91 #[.agg #[.iface x.jt (.agg #[.int .i64 x.s.t, .int .i64 x.s.ser, .int .i64 x.s.win]), .int .i64 x.since, .int .i64 x.tries, .int .i64 x.rest], .agg #[.iface y.jt (.agg #[.int .i64 y.s.t, .int .i64 y.s.ser, .int .i64 y.s.win]), .int .i64 y.since, .int .i64 y.tries, .int .i64 y.rest]] w fun e w' => e = .returned (.int .i64 (byKeyV x y)) ∧ Below w.heap.size w w' :=
  (Dr.byKey_any x y w).mono fun _ _ h => ⟨h.1, h.2.bel⟩
end Go.Proofs.YtpbimdkclnekeaaGreat
