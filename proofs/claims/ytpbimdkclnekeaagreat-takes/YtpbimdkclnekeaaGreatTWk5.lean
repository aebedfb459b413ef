import Derived.Test.YtpbimdkclnekeaaGreatTConf4
import Derived.Test.YtpbimdkclnekeaaGreatTJn1
import Derived.Test.YtpbimdkclnekeaaGreatTConf3
import Derived.Test.YtpbimdkclnekeaaGreatTConf5

namespace Go.Proofs.YtpbimdkclnekeaaGreat
open Value (int)
open IntKind (i64)
open Go.RowKit
set_option linter.unusedVariables false
theorem zfc {V : World} {z a i : Nat} (hn : ¬ a = z) (hl : a < V.heap.size) (x0 x1 x2 x3 : Value) : ((((V.setCell ⟨z, 0, none⟩ x0).setCell ⟨z, 1, none⟩ x1).setCell ⟨z, 2, none⟩ x2).setCell ⟨z, 3, none⟩ x3).cell? ⟨a, i, none⟩ = V.cell? ⟨a, i, none⟩ :=
 zbv (f := fun k => k = z) (zag (zag (zag (zag (zan.refl _ _) rfl) rfl) rfl) rfl) hn hl
structure AQq (w Y : World) (z : Nat) (op : Obj) (Q1 Q2 Q3 Q4 : Int) : Prop where
 below : Below w.heap.size w Y
 low : w.heap.size + 3 <= z
 cell : Y.heap[z]? = some (.cells #[int i64 Q1, int i64 Q2, .int .i32 Q3, .int .i32 Q4] 114)
 op : Y.heap[w.heap.size]? = some op
 res : Y.heap[w.heap.size + 1]? = some (.cells #[int i64 0, int i64 0, .int .i32 0, .int .i32 0] 114)
theorem aset4 {w : World} {g : Nat} {a b c d : Value} {t : TypeId} (h : w.heap[g]? = some (.cells #[a, b, c, d] t)) (x0 x1 x2 x3 : Value) : ((((w.setCell ⟨g, 0, none⟩ x0).setCell ⟨g, 1, none⟩ x1).setCell ⟨g, 2, none⟩ x2).setCell ⟨g, 3, none⟩ x3).heap[g]? = some (.cells #[x0, x1, x2, x3] t) := by
 have h0 : (w.setCell ⟨g, 0, none⟩ x0).heap[g]? = some (.cells #[x0, b, c, d] t) := zbz (i := 0) h x0
 have h1 : ((w.setCell ⟨g, 0, none⟩ x0).setCell ⟨g, 1, none⟩ x1).heap[g]? = some (.cells #[x0, x1, c, d] t) := zbz (i := 1) h0 x1
 have h2 : (((w.setCell ⟨g, 0, none⟩ x0).setCell ⟨g, 1, none⟩ x1).setCell ⟨g, 2, none⟩ x2).heap[g]? = some (.cells #[x0, x1, x2, d] t) := zbz (i := 2) h1 x2
 exact zbz (i := 3) h2 x3
theorem kept4q {w : World} {g : Nat} (x0 x1 x2 x3 : Value) : zan (fun k => k = g) w ((((w.setCell ⟨g, 0, none⟩ x0).setCell ⟨g, 1, none⟩ x1).setCell ⟨g, 2, none⟩ x2).setCell ⟨g, 3, none⟩ x3) :=
 zag (zag (zag (zag (zan.refl _ _) rfl) rfl) rfl) rfl
theorem AQq.ahead {w X V : World} {op : Obj} {Q1 Q2 Q3 Q4 : Int} (hb : Below w.heap.size w X) (hz : X.heap.size = w.heap.size + 3) (h0 : X.heap[w.heap.size]? = some op) (h1 : X.heap[w.heap.size + 1]? = some (.cells #[int i64 0, int i64 0, .int .i32 0, .int .i32 0] 114)) (hv : Below X.heap.size X V) (hc : V.heap[X.heap.size]? = some (.cells #[int i64 0, int i64 0, .int .i32 0, .int .i32 0] 114)) :
  AQq w ((((V.setCell ⟨X.heap.size, 0, none⟩ (int i64 Q1)).setCell ⟨X.heap.size, 1, none⟩ (int i64 Q2)).setCell ⟨X.heap.size, 2, none⟩ (.int .i32 Q3)).setCell ⟨X.heap.size, 3, none⟩ (.int .i32 Q4)) X.heap.size op Q1 Q2 Q3 Q4 := by
 have hk := kept4q (w := V) (g := X.heap.size) (int i64 Q1) (int i64 Q2) (.int .i32 Q3) (.int .i32 Q4)
 have hs := hv.size
 have hb2 : Below X.heap.size X _ := hv.trans (hk.below hs (fun k hk => by omega))
 exact ⟨hb.trans (hb2.mono (by omega)), by omega, aset4 hc _ _ _ _, (hb2.block w.heap.size (by omega)).trans h0, (hb2.block (w.heap.size + 1) (by omega)).trans h1⟩
theorem AQq.behind {w X V : World} {op : Obj} {Q1 Q2 Q3 Q4 : Int} (hb : Below w.heap.size w X) (hz : X.heap.size = w.heap.size + 3) (h0 : X.heap[w.heap.size]? = some op) (h1 : X.heap[w.heap.size + 1]? = some (.cells #[int i64 0, int i64 0, .int .i32 0, .int .i32 0] 114)) (hv : Below X.heap.size X V) :
  AQq w (V.alloc (.cells #[int i64 Q1, int i64 Q2, .int .i32 Q3, .int .i32 Q4] 114)) V.heap.size op Q1 Q2 Q3 Q4 := by
 have hs := hv.size
 have hb2 := hv.alloc hs (.cells #[int i64 Q1, int i64 Q2, .int .i32 Q3, .int .i32 Q4] 114)
 exact ⟨hb.trans (hb2.mono (by omega)), by omega, zap V _, (hb2.block w.heap.size (by omega)).trans h0, (hb2.block (w.heap.size + 1) (by omega)).trans h1⟩
structure ARq (w Y : World) (z : Nat) (Q1 Q2 Q3 Q4 : Int) : Prop where
 below : Below w.heap.size w Y
 cell : Y.heap[z]? = some (.cells #[int i64 Q1, int i64 Q2, .int .i32 Q3, .int .i32 Q4] 114)
theorem ARq.ahead {X V : World} {Q1 Q2 Q3 Q4 : Int} (hv : Below X.heap.size X V) (hc : V.heap[X.heap.size]? = some (.cells #[int i64 0, int i64 0, .int .i32 0, .int .i32 0] 114)) :
  ARq X ((((V.setCell ⟨X.heap.size, 0, none⟩ (int i64 Q1)).setCell ⟨X.heap.size, 1, none⟩ (int i64 Q2)).setCell ⟨X.heap.size, 2, none⟩ (.int .i32 Q3)).setCell ⟨X.heap.size, 3, none⟩ (.int .i32 Q4)) X.heap.size Q1 Q2 Q3 Q4 := by
 have hk := kept4q (w := V) (g := X.heap.size) (int i64 Q1) (int i64 Q2) (.int .i32 Q3) (.int .i32 Q4)
 exact ⟨hv.trans (hk.below hv.size (fun k hk => by omega)), aset4 hc _ _ _ _⟩
theorem ARq.behind {X V : World} {Q1 Q2 Q3 Q4 : Int} (hv : Below X.heap.size X V) :
  ARq X (V.alloc (.cells #[int i64 Q1, int i64 Q2, .int .i32 Q3, .int .i32 Q4] 114)) V.heap.size Q1 Q2 Q3 Q4 := ⟨hv.alloc hv.size _, zap V _⟩
set_option maxRecDepth 8000 in
set_option maxHeartbeats 8000000 in
theorem asked_query {w : World} {wb po x d r : Nat} {c : Cf} {ct mv td : Value} {ep : Int} (hhd : w.heap[po]? = some (zay x d c ct mv td ep)) (hmay : w.ownsRow 0 108 1 mv 1 [.pointer (some ⟨r, 0, none⟩)]) (o : Ops) {Q1 Q2 Q3 Q4 QE : Int}
  (HP0 : ∀ V, Below w.heap.size w V -> Calls Tryz.prog 60 #[.pointer (some ⟨x, 0, none⟩), int i64 o.a, int i64 o.b, int i64 o.c] V fun e V' => e = .returned (.tuple #[.agg #[int i64 Q1, int i64 Q2, .int .i32 Q3, .int .i32 Q4], int i64 QE]) /\ Below V.heap.size V V')
  (HR0 : ∀ V, Below w.heap.size w V -> Calls Tryz.prog 107 #[.pointer (some ⟨r, 0, none⟩), int i64 o.a, int i64 o.b, int i64 o.c] V fun e V' => e = .returned (.tuple #[.agg #[int i64 Q1, int i64 Q2, .int .i32 Q3, .int .i32 Q4], int i64 QE]) /\ Below V.heap.size V V') :
  Calls Tryz.prog 56 #[.pointer (some ⟨wb, 0, none⟩), .pointer (some ⟨po, 0, none⟩), .agg #[int i64 4, int i64 o.on, int i64 o.a, int i64 o.b, int i64 o.c, .int .i32 o.v, int i64 o.te, int i64 o.tn, int i64 o.fs, int i64 o.fle, int i64 o.fla, int i64 o.fwi, int i64 o.fke, int i64 o.fqu, .slice o.fa o.fn o.fcap]] w fun e w' => e = .returned (.bool true) /\ ∃ (Z : World) (g cap : Nat), w' = Z.setCell ⟨po, 9, none⟩ (.slice (some ⟨g, 0, none⟩) 1 cap) /\ Below w.heap.size w Z /\ Z.ownsRow 0 108 1 (.slice (some ⟨g, 0, none⟩) 1 cap) 1 [.pointer (some ⟨r, 0, none⟩)] /\ w.heap.size <= g := by
 have hpl := zaa hhd
 obtain ⟨y0, y1, y2, hbw, yz⟩ := box3p w (.cells #[int i64 4, int i64 o.on, int i64 o.a, int i64 o.b, int i64 o.c, .int .i32 o.v, int i64 o.te, int i64 o.tn, int i64 o.fs, int i64 o.fle, int i64 o.fla, int i64 o.fwi, int i64 o.fke, int i64 o.fqu, .slice o.fa o.fn o.fcap] 68) (.cells #[int i64 0, int i64 0, .int .i32 0, .int .i32 0] 114) (.cells #[int i64 0, int i64 0, int i64 0, int i64 0, int i64 0, int i64 0, int i64 0, int i64 0] 37)
 have HPS := fun (V : World) (hb : Below w.heap.size w V) => zab (HP0 V hb)
 have HRS := fun (V : World) (hb : Below w.heap.size w V) => zab (HR0 V hb)
 obtain ⟨mb, mcap, hmv, _, hmbl⟩ := hmay.form (by omega)
 have HMB : Hid (w.cell? ⟨mb, 0, none⟩ = some (.pointer (some ⟨r, 0, none⟩))) := by
  have := hmay
  rw [hmv] at this
  show _ = _
  rw [this.cellAt 0 (by omega)]; rfl
 have HHD := zab hhd
 go_enter Tryz.func56, Tryz.ntmps56
 clear HP0 HR0
 go_wp2_with fail
 generalize (((w.alloc (.cells #[int i64 4, int i64 o.on, int i64 o.a, int i64 o.b, int i64 o.c, .int .i32 o.v, int i64 o.te, int i64 o.tn, int i64 o.fs, int i64 o.fle, int i64 o.fla, int i64 o.fwi, int i64 o.fke, int i64 o.fqu, .slice o.fa o.fn o.fcap] 68)).alloc (.cells #[int i64 0, int i64 0, .int .i32 0, .int .i32 0] 114)).alloc (.cells #[int i64 0, int i64 0, int i64 0, int i64 0, int i64 0, int i64 0, int i64 0, int i64 0] 37)) = X at *
 have hz3 := zap X (.cells #[int i64 0, int i64 0, .int .i32 0, .int .i32 0] 114)
 have hbX : Below X.heap.size X (X.alloc (.cells #[int i64 0, int i64 0, .int .i32 0, .int .i32 0] 114)) := (Below.refl _ _).alloc (Nat.le_refl _) _
 have hs4 : (X.alloc (.cells #[int i64 0, int i64 0, .int .i32 0, .int .i32 0] 114)).heap.size = X.heap.size + 1 := zbd X _
 have hzl : X.heap.size < (X.alloc (.cells #[int i64 0, int i64 0, .int .i32 0, .int .i32 0] 114)).drew.heap.size := by show X.heap.size < (X.alloc (.cells #[int i64 0, int i64 0, .int .i32 0, .int .i32 0] 114)).heap.size; omega
 have HBX := zab hbX.drew
 have HC1 := HPS _ (hbw.trans (hbX.drew.mono hbw.size))
 have HC0 := HPS _ hbw.drew
 clear HPS
 have hpx := (hbw.block po hpl).trans (ud HHD)
 have z0 : X.cell? ⟨po, 0, none⟩ = some (.pointer (some ⟨x, 0, none⟩)) := by unfold zay at hpx; rw [zac hpx]; rfl
 have z2 : X.cell? ⟨w.heap.size, 2, none⟩ = some (int i64 o.a) := by rw [zac y0]; rfl
 have z3 : X.cell? ⟨w.heap.size, 3, none⟩ = some (int i64 o.b) := by rw [zac y0]; rfl
 have z4 : X.cell? ⟨w.heap.size, 4, none⟩ = some (int i64 o.c) := by rw [zac y0]; rfl
 have hpX : po < X.heap.size := by omega
 have hqX : w.heap.size < X.heap.size := by omega
 have Y0 := zab y0
 have Y1 := zab y1
 have Y3 := zab hz3
 have HBW := zab hbw
 have YZ := zab yz
 have hpz : ¬ po = X.heap.size := by omega
 have hwz : ¬ w.heap.size = X.heap.size := by omega
 clear y0 y1 y2 hbw yz hpx hz3 hs4 hbX
 go_region_held3 (fun w' => w'.cell? ⟨po, 0, none⟩ = some (.pointer (some ⟨x, 0, none⟩)) /\ w'.cell? ⟨w.heap.size, 2, none⟩ = some (int i64 o.a) /\ w'.cell? ⟨w.heap.size, 3, none⟩ = some (int i64 o.b) /\ w'.cell? ⟨w.heap.size, 4, none⟩ = some (int i64 o.c)) (first | go_keep | exact ⟨(zfc (by assumption) (by assumption) _ _ _ _).trans (by assumption), (zfc (by assumption) (by assumption) _ _ _ _).trans (by assumption), (zfc (by assumption) (by assumption) _ _ _ _).trans (by assumption), (zfc (by assumption) (by assumption) _ _ _ _).trans (by assumption)⟩) (first
  | (go_at_call 60; refine (ud HC1).mono ?_; rintro e V ⟨rfl, hb0⟩; have hz := (hb0.block X.heap.size hzl).trans (ud Y3); have hb : Below X.heap.size X V := (ud HBX).trans (hb0.mono (ud HBX).size); clear hb0; have hpV : po < V.heap.size := Nat.lt_of_lt_of_le hpX hb.size; have hqV : w.heap.size < V.heap.size := Nat.lt_of_lt_of_le hqX hb.size; have v0 := (hb.cell (p := ⟨po, 0, none⟩) hpX).trans z0; have v2 := (hb.cell (p := ⟨w.heap.size, 2, none⟩) hqX).trans z2; have v3 := (hb.cell (p := ⟨w.heap.size, 3, none⟩) hqX).trans z3; have v4 := (hb.cell (p := ⟨w.heap.size, 4, none⟩) hqX).trans z4; have n0 : V.cell? ⟨X.heap.size, 0, none⟩ = some (int i64 0) := (by rw [zac hz]; rfl); have n1 : V.cell? ⟨X.heap.size, 1, none⟩ = some (int i64 0) := (by rw [zac hz]; rfl); have n2 : V.cell? ⟨X.heap.size, 2, none⟩ = some (.int .i32 0) := (by rw [zac hz]; rfl); have n3 : V.cell? ⟨X.heap.size, 3, none⟩ = some (.int .i32 0) := (by rw [zac hz]; rfl); have nf := fun j => zaz hz j; have HZ := zab hz; have HBV := zab hb; clear hb hz)
  | (go_at_call 60; refine (ud HC0).mono ?_; rintro e V ⟨rfl, hb0⟩; have hb : Below X.heap.size X V := ⟨hb0.os, hb0.tape, hb0.output, hb0.size, hb0.block⟩; clear hb0; have hpV : po < V.heap.size := Nat.lt_of_lt_of_le hpX hb.size; have hqV : w.heap.size < V.heap.size := Nat.lt_of_lt_of_le hqX hb.size; have v0 := (hb.cell (p := ⟨po, 0, none⟩) hpX).trans z0; have v2 := (hb.cell (p := ⟨w.heap.size, 2, none⟩) hqX).trans z2; have v3 := (hb.cell (p := ⟨w.heap.size, 3, none⟩) hqX).trans z3; have v4 := (hb.cell (p := ⟨w.heap.size, 4, none⟩) hqX).trans z4; have hpv : ¬ po = V.heap.size := (by have := hb.size; omega); have hwv : ¬ w.heap.size = V.heap.size := (by have := hb.size; omega); have HBV := zab hb; clear hb))
 all_goals (first
  | (have hP := AQq.ahead (Q1 := Q1) (Q2 := Q2) (Q3 := Q3) (Q4 := Q4) (ud HBW) (ud YZ) (ud Y0) (ud Y1) (ud HBV) (ud HZ); clear n0 n1 n2 n3 nf HZ; generalize ((((V.setCell ⟨X.heap.size, 0, none⟩ (int i64 Q1)).setCell ⟨X.heap.size, 1, none⟩ (int i64 Q2)).setCell ⟨X.heap.size, 2, none⟩ (.int .i32 Q3)).setCell ⟨X.heap.size, 3, none⟩ (.int .i32 Q4)) = Y at hP ⊢; generalize X.heap.size = z at hP ⊢)
  | (have hP := AQq.behind (Q1 := Q1) (Q2 := Q2) (Q3 := Q3) (Q4 := Q4) (ud HBW) (ud YZ) (ud Y0) (ud Y1) (ud HBV); clear hpv hwv; generalize (V.alloc (.cells #[int i64 Q1, int i64 Q2, .int .i32 Q3, .int .i32 Q4] 114)) = Y at hP ⊢; generalize V.heap.size = z at hP ⊢))
 all_goals
  clear v0 v2 v3 v4 hpV hqV HBV z0 z2 z3 z4 hpX hqX Y0 Y1 Y3 HBW YZ HBX HC1 HC0 hzl hpz hwz
  have hzY := zaa hP.cell
  have hqY := zaa hP.res
  have hneq : ¬ w.heap.size + 1 = z := by have := hP.low; omega
  have a0 : Y.cell? ⟨z, 0, none⟩ = some (int i64 Q1) := by rw [zac hP.cell]; rfl
  have a1 : Y.cell? ⟨z, 1, none⟩ = some (int i64 Q2) := by rw [zac hP.cell]; rfl
  have a2 : Y.cell? ⟨z, 2, none⟩ = some (.int .i32 Q3) := by rw [zac hP.cell]; rfl
  have a3 : Y.cell? ⟨z, 3, none⟩ = some (.int .i32 Q4) := by rw [zac hP.cell]; rfl
  have b0 : Y.cell? ⟨w.heap.size + 1, 0, none⟩ = some (int i64 0) := by rw [zac hP.res]; rfl
  have b1 : Y.cell? ⟨w.heap.size + 1, 1, none⟩ = some (int i64 0) := by rw [zac hP.res]; rfl
  have b2 : Y.cell? ⟨w.heap.size + 1, 2, none⟩ = some (.int .i32 0) := by rw [zac hP.res]; rfl
  have b3 : Y.cell? ⟨w.heap.size + 1, 3, none⟩ = some (.int .i32 0) := by rw [zac hP.res]; rfl
  have bf := fun j => zaz hP.res j
  have HP := zab hP
  clear hP
  go_wp2_with (go_at_call 98; refine (num_any _ _).mono ?_; rintro e V1 ⟨rfl, hV1⟩; rw [hV1]; clear hV1)
 all_goals
  have hP := ud HP
  have hk8 := kept4q (w := Y) (g := w.heap.size + 1) (int i64 Q1) (int i64 Q2) (.int .i32 Q3) (.int .i32 Q4)
  have hs8 := aset4 hP.res (int i64 Q1) (int i64 Q2) (.int .i32 Q3) (.int .i32 Q4)
  have ho8 := hk8.heap hP.op (by omega)
  have hw8 : Below w.heap.size w ((((Y.setCell ⟨w.heap.size + 1, 0, none⟩ (int i64 Q1)).setCell ⟨w.heap.size + 1, 1, none⟩ (int i64 Q2)).setCell ⟨w.heap.size + 1, 2, none⟩ (.int .i32 Q3)).setCell ⟨w.heap.size + 1, 3, none⟩ (.int .i32 Q4)) := hP.below.trans (hk8.below hP.below.size (fun k hk => by omega))
  have HVW := zab (views_any (w := ((((Y.setCell ⟨w.heap.size + 1, 0, none⟩ (int i64 Q1)).setCell ⟨w.heap.size + 1, 1, none⟩ (int i64 Q2)).setCell ⟨w.heap.size + 1, 2, none⟩ (.int .i32 Q3)).setCell ⟨w.heap.size + 1, 3, none⟩ (.int .i32 Q4))) (by rw [<- hmv]; exact (hw8.block po hpl).trans (ud HHD)) ((hw8.cell (p := ⟨mb, 0, none⟩) hmbl).trans (ud HMB)) (Nat.lt_of_lt_of_le hmbl hw8.size))
  have HS8 := zab hs8
  have HW8 := zab hw8
  have HO8 := zab ho8
  clear hP HP hk8 hs8 ho8 hw8 a0 a1 a2 a3 b0 b1 b2 b3 bf hzY hqY hneq
  generalize ((((Y.setCell ⟨w.heap.size + 1, 0, none⟩ (int i64 Q1)).setCell ⟨w.heap.size + 1, 1, none⟩ (int i64 Q2)).setCell ⟨w.heap.size + 1, 2, none⟩ (.int .i32 Q3)).setCell ⟨w.heap.size + 1, 3, none⟩ (.int .i32 Q4)) = X8 at *
  refine (ud HVW).mono ?_
  rintro e W1 ⟨g1, cap1, rfl, hrow1, hb1⟩
  have ho1 := (hb1.block w.heap.size (zaa (ud HO8))).trans (ud HO8)
  have hw1 := (ud HW8).trans (hb1.mono (ud HW8).size)
  have q0 : W1.cell? ⟨w.heap.size, 0, none⟩ = some (int i64 4) := by rw [zac ho1]; rfl
  have q2 : W1.cell? ⟨w.heap.size, 2, none⟩ = some (int i64 o.a) := by rw [zac ho1]; rfl
  have q3 : W1.cell? ⟨w.heap.size, 3, none⟩ = some (int i64 o.b) := by rw [zac ho1]; rfl
  have q4 : W1.cell? ⟨w.heap.size, 4, none⟩ = some (int i64 o.c) := by rw [zac ho1]; rfl
  have g0 : W1.cell? ⟨g1, 0, none⟩ = some (.pointer (some ⟨r, 0, none⟩)) := by rw [hrow1.cellAt 0 (by omega)]; rfl
  have hg1 : g1 < W1.heap.size := own_lt hrow1 g1 rfl
  have hqW := zaa ho1
  have hz3 := zap W1 (.cells #[int i64 0, int i64 0, .int .i32 0, .int .i32 0] 114)
  have hbX : Below W1.heap.size W1 (W1.alloc (.cells #[int i64 0, int i64 0, .int .i32 0, .int .i32 0] 114)) := (Below.refl _ _).alloc (Nat.le_refl _) _
  have hs4 : (W1.alloc (.cells #[int i64 0, int i64 0, .int .i32 0, .int .i32 0] 114)).heap.size = W1.heap.size + 1 := zbd W1 _
  have hzl : W1.heap.size < (W1.alloc (.cells #[int i64 0, int i64 0, .int .i32 0, .int .i32 0] 114)).drew.heap.size := by show W1.heap.size < (W1.alloc (.cells #[int i64 0, int i64 0, .int .i32 0, .int .i32 0] 114)).heap.size; omega
  have HC1 := HRS _ (hw1.trans (hbX.drew.mono hw1.size))
  have HC0 := HRS _ hw1.drew
  have hgz : ¬ g1 = W1.heap.size := by omega
  have hwz : ¬ w.heap.size = W1.heap.size := by omega
  have HBX := zab hbX.drew
  have Y3 := zab hz3
  have HS1 := zab ((hb1.block (w.heap.size + 1) (zaa (ud HS8))).trans (ud HS8))
  have HO1 := zab ho1
  have HW1 := zab hw1
  clear ho1 hw1 hrow1 hb1 HVW HRS hs4 hbX hz3 HS8 HW8 HO8
  go_wp2_with fail
  refine wp_loop_rounds 2 ?_
  rw [rounds_succ]
  go_wp2_with fail
  go_region_held3 (fun w' => w'.cell? ⟨g1, 0, none⟩ = some (.pointer (some ⟨r, 0, none⟩)) /\ w'.cell? ⟨w.heap.size, 2, none⟩ = some (int i64 o.a) /\ w'.cell? ⟨w.heap.size, 3, none⟩ = some (int i64 o.b) /\ w'.cell? ⟨w.heap.size, 4, none⟩ = some (int i64 o.c)) (first | go_keep | exact ⟨(zfc (by assumption) (by assumption) _ _ _ _).trans (by assumption), (zfc (by assumption) (by assumption) _ _ _ _).trans (by assumption), (zfc (by assumption) (by assumption) _ _ _ _).trans (by assumption), (zfc (by assumption) (by assumption) _ _ _ _).trans (by assumption)⟩) (first
   | (go_at_call 107; refine (ud HC1).mono ?_; rintro e V ⟨rfl, hb0⟩; have hz := (hb0.block W1.heap.size hzl).trans (ud Y3); have hb : Below W1.heap.size W1 V := (ud HBX).trans (hb0.mono (ud HBX).size); clear hb0; have hgV : g1 < V.heap.size := Nat.lt_of_lt_of_le hg1 hb.size; have hqV : w.heap.size < V.heap.size := Nat.lt_of_lt_of_le hqW hb.size; have v0 := (hb.cell (p := ⟨g1, 0, none⟩) hg1).trans g0; have v2 := (hb.cell (p := ⟨w.heap.size, 2, none⟩) hqW).trans q2; have v3 := (hb.cell (p := ⟨w.heap.size, 3, none⟩) hqW).trans q3; have v4 := (hb.cell (p := ⟨w.heap.size, 4, none⟩) hqW).trans q4; have n0 : V.cell? ⟨W1.heap.size, 0, none⟩ = some (int i64 0) := (by rw [zac hz]; rfl); have n1 : V.cell? ⟨W1.heap.size, 1, none⟩ = some (int i64 0) := (by rw [zac hz]; rfl); have n2 : V.cell? ⟨W1.heap.size, 2, none⟩ = some (.int .i32 0) := (by rw [zac hz]; rfl); have n3 : V.cell? ⟨W1.heap.size, 3, none⟩ = some (.int .i32 0) := (by rw [zac hz]; rfl); have nf := fun j => zaz hz j; have HZ := zab hz; have HBV := zab hb; clear hb hz)
   | (go_at_call 107; refine (ud HC0).mono ?_; rintro e V ⟨rfl, hb0⟩; have hb : Below W1.heap.size W1 V := ⟨hb0.os, hb0.tape, hb0.output, hb0.size, hb0.block⟩; clear hb0; have hgV : g1 < V.heap.size := Nat.lt_of_lt_of_le hg1 hb.size; have hqV : w.heap.size < V.heap.size := Nat.lt_of_lt_of_le hqW hb.size; have v0 := (hb.cell (p := ⟨g1, 0, none⟩) hg1).trans g0; have v2 := (hb.cell (p := ⟨w.heap.size, 2, none⟩) hqW).trans q2; have v3 := (hb.cell (p := ⟨w.heap.size, 3, none⟩) hqW).trans q3; have v4 := (hb.cell (p := ⟨w.heap.size, 4, none⟩) hqW).trans q4; have hgv : ¬ g1 = V.heap.size := (by have := hb.size; omega); have hwv : ¬ w.heap.size = V.heap.size := (by have := hb.size; omega); have HBV := zab hb; clear hb))
 all_goals (first
  | (have hP := ARq.ahead (Q1 := Q1) (Q2 := Q2) (Q3 := Q3) (Q4 := Q4) (ud HBV) (ud HZ); clear n0 n1 n2 n3 nf HZ; generalize ((((V.setCell ⟨W1.heap.size, 0, none⟩ (int i64 Q1)).setCell ⟨W1.heap.size, 1, none⟩ (int i64 Q2)).setCell ⟨W1.heap.size, 2, none⟩ (.int .i32 Q3)).setCell ⟨W1.heap.size, 3, none⟩ (.int .i32 Q4)) = U1 at hP ⊢; obtain ⟨hbP, hcP⟩ := hP; generalize hz2 : W1.heap.size = z2 at hcP ⊢; clear hz2)
  | (have hP := ARq.behind (Q1 := Q1) (Q2 := Q2) (Q3 := Q3) (Q4 := Q4) (ud HBV); clear hgv hwv; generalize (V.alloc (.cells #[int i64 Q1, int i64 Q2, .int .i32 Q3, .int .i32 Q4] 114)) = U1 at hP ⊢; obtain ⟨hbP, hcP⟩ := hP; generalize V.heap.size = z2 at hcP ⊢))
 all_goals
  clear v0 v2 v3 v4 hgV hqV HBV q2 q3 q4 HBX HC1 HC0 hzl hgz hwz Y3
  have g2 : U1.cell? ⟨g1, 0, none⟩ = some (.pointer (some ⟨r, 0, none⟩)) := (hbP.cell (p := ⟨g1, 0, none⟩) hg1).trans g0
  have hs1 := (hbP.block (w.heap.size + 1) (zaa (ud HS1))).trans (ud HS1)
  have s0 : U1.cell? ⟨w.heap.size + 1, 0, none⟩ = some (int i64 Q1) := by rw [zac hs1]; rfl
  have s1 : U1.cell? ⟨w.heap.size + 1, 1, none⟩ = some (int i64 Q2) := by rw [zac hs1]; rfl
  have s2 : U1.cell? ⟨w.heap.size + 1, 2, none⟩ = some (.int .i32 Q3) := by rw [zac hs1]; rfl
  have s3 : U1.cell? ⟨w.heap.size + 1, 3, none⟩ = some (.int .i32 Q4) := by rw [zac hs1]; rfl
  have a0 : U1.cell? ⟨z2, 0, none⟩ = some (int i64 Q1) := by rw [zac hcP]; rfl
  have a1 : U1.cell? ⟨z2, 1, none⟩ = some (int i64 Q2) := by rw [zac hcP]; rfl
  have a2 : U1.cell? ⟨z2, 2, none⟩ = some (.int .i32 Q3) := by rw [zac hcP]; rfl
  have a3 : U1.cell? ⟨z2, 3, none⟩ = some (.int .i32 Q4) := by rw [zac hcP]; rfl
  have hm0 : 0 < 1 := by decide
  have hm1 : 0 + 1 <= maxLen := by simp [maxLen]
  have hm2 : (0 + 1) * 8 <= 140737488355328 := by omega
  have hg2 : g1 < U1.heap.size := Nat.lt_of_lt_of_le hg1 hbP.size
  have HBP := zab hbP
  clear hs1 hbP hcP
  go_wp2_with (first | (at_builtin; refine zbg rfl _ _ 104 rfl 0 108 _ 1 8 Tryz.underlying104 Tryz.infoRefP rfl (by decide) (.slice none 0 0) 0 [] rfl (World.ownsRow_nil _ _ _ _) ⟨U1.heap.size, 0, none⟩ 1 1 [.pointer (some ⟨r, 0, none⟩)] rfl rfl (World.news_of_block (cs := #[.pointer (some ⟨r, 0, none⟩)]) (zap U1 _)) (by intro u hu; simp at hu; subst hu; rfl) hm0 hm1 hm2 (Nat.zero_le _) ?_; intro g gcap W4 hown4 hold4 hgrow4 hat4 hlt4; have HO4 := zab hown4; have HG4 := zab hgrow4; have HA4 := zab hat4; clear hown4 hold4 hgrow4 hat4) | go_in)
  have hbU : Below U1.heap.size U1 (U1.alloc (.cells #[.pointer (some ⟨r, 0, none⟩)] 108)) := (Below.refl _ _).alloc (Nat.le_refl _) _
  have hbUW : Below U1.heap.size U1 W4 := hbU.grown (show (U1.alloc (.cells #[.pointer (some ⟨r, 0, none⟩)] 108)).grownBy W4 none from ud HG4) hbU.size (fun k e => by cases e)
  have hb1W : Below W1.heap.size W1 W4 := (ud HBP).trans (hbUW.mono (ud HBP).size)
  have hwW : Below w.heap.size w W4 := (ud HW1).trans (hb1W.mono (ud HW1).size)
  have hp4 := (hwW.block po hpl).trans (ud HHD)
  have ho4 := (hb1W.block w.heap.size (zaa (ud HO1))).trans (ud HO1)
  have k9 : W4.cell? ⟨po, 9, none⟩ = some mv := by have hq := hp4; unfold zay at hq; rw [zac hq]; rfl
  have k13 : W4.cell? ⟨po, 13, none⟩ = some (.bool false) := by have hq := hp4; unfold zay at hq; rw [zac hq]; rfl
  have kf4 : ∀ j, W4.frozen? ⟨po, j, none⟩ = false := fun j => by have hq := hp4; unfold zay at hq; exact zaz hq j
  have k0 : W4.cell? ⟨w.heap.size, 0, none⟩ = some (int i64 4) := by rw [zac ho4]; rfl
  have hpo4 := zaa hp4
  have HP4 := zab hp4
  have HWW := zab hwW
  clear hbU hbUW hb1W hwW hp4 ho4 s0 s1 s2 s3 a0 a1 a2 a3 g0 g2 q0
  rw [rounds_succ]
  go_wp2_with fail
  go_ret
  have hg4 : w.heap.size <= g := by
   rcases ud HA4 with h | h
   ·cases h
   ·rw [h]
    have z1 := (ud HBP).size; have z2 := (ud HW1).size; rw [zbd]; omega
  exact ⟨rfl, _, g, gcap, rfl, ud HWW, ud HO4, hg4⟩
theorem TS.keptb {w w' : World} {g off n : Nat} {F W K : Nat -> Int} {f : Nat -> Prop} (h : TS w (some ⟨g, off, none⟩) n F W K) (hk : zan f w w') (hn : ¬ f g) : TS w' (some ⟨g, off, none⟩) n F W K := fun h0 => by
 obtain ⟨b, off', e, hlt, hc⟩ := h h0
 cases e
 refine ⟨g, off, rfl, Nat.lt_of_lt_of_le hlt hk.size, fun i hi => ?_⟩
 rw [zbv hk hn hlt, zbv hk hn hlt, zbv hk hn hlt]
 exact hc i hi
def Rowy (w : World) (g N : Nat) : Prop := ∃ cs t, w.heap[g]? = some (.cells cs t (0, 0)) /\ cs.size = N
theorem Rowy.set {w : World} {g N : Nat} (h : Rowy w g N) (i : Nat) (v : Value) : Rowy (w.setCell ⟨g, i, none⟩ v) g N := by
 obtain ⟨cs, t, hb, hs⟩ := h
 exact ⟨_, t, zbz hb v, by simpa using hs⟩
theorem Rowy.kept {w w' : World} {g N : Nat} {f : Nat -> Prop} (h : Rowy w g N) (hk : zan f w w') (hn : ¬ f g) : Rowy w' g N := by
 obtain ⟨cs, t, hb, hs⟩ := h
 exact ⟨cs, t, (hk.block g (zaa hb) hn).trans hb, hs⟩
theorem Rowy.cell {w : World} {g N : Nat} (h : Rowy w g N) (i : Nat) (hi : i < N) : ∃ v, w.cell? ⟨g, i, none⟩ = some v := by
 obtain ⟨cs, t, hb, hs⟩ := h
 rw [cell_of_block hb]
 exact ⟨_, Array.getElem?_eq_getElem (by omega)⟩
theorem Rowy.free {w : World} {g N : Nat} (h : Rowy w g N) (i : Nat) : w.frozen? ⟨g, i, none⟩ = false := by
 obtain ⟨cs, t, hb, hs⟩ := h
 exact unfrozen_of_block hb i
theorem Rowy.lt {w : World} {g N : Nat} (h : Rowy w g N) : g < w.heap.size := by
 obtain ⟨cs, t, hb, hs⟩ := h
 exact zaa hb
theorem CF.kept {w w' : World} {g : Nat} {s le la wi ke qu : Int} {a : Option Addr} {n cap : Nat} {f : Nat -> Prop} (h : CF w g s le la wi ke qu a n cap) (hk : zan f w w') (hn : ¬ f g) : CF w' g s le la wi ke qu a n cap := by
 obtain ⟨hl, c0, c1, c2, c3, c4, c5, c6⟩ := h
 exact ⟨Nat.lt_of_lt_of_le hl hk.size, (zbv hk hn hl).trans c0, (zbv hk hn hl).trans c1, (zbv hk hn hl).trans c2, (zbv hk hn hl).trans c3, (zbv hk hn hl).trans c4, (zbv hk hn hl).trans c5, (zbv hk hn hl).trans c6⟩
set_option maxRecDepth 8000 in
set_option maxHeartbeats 4000000 in
theorem opens_gen (s le la wi ke qu : Int) (a : Option Addr) (n cap : Nat) (F W K : Nat -> Int) (hsz : 24 * (n + 1) <= 281474976710656) (w : World) (p : Nat) (f : Nat -> Prop) (hf : ∀ k, f k -> k < w.heap.size) (hta0 : ∀ w', zan f w w' -> TS w' a n F W K)
  (R : Option Addr -> Int -> World -> Prop) (hR : ∀ xo ec A B, zan (fun k => k = w.heap.size + 1) A B -> R xo ec A -> R xo ec B)
  (HO : ∀ w4, Below w.heap.size w w4 -> w.heap.size + 3 = w4.heap.size -> (∀ w', zan f w4 w' -> TS w' (some ⟨w.heap.size + 1, 0, none⟩) n F W K) -> Calls Tryz.prog 26 #[.agg #[int i64 s, int i64 le, int i64 la, int i64 wi, int i64 ke, int i64 qu, .slice (some ⟨w.heap.size + 1, 0, none⟩) n (n + 1)], .pointer (some ⟨p, 0, none⟩)] w4 fun e w5 => ∃ xo ec, e = .returned (.tuple #[.pointer xo, int i64 ec]) /\ zan f w4 w5 /\ R xo ec w5) :
  Calls Tryz.prog 48 #[.agg #[int i64 s, int i64 le, int i64 la, int i64 wi, int i64 ke, int i64 qu, .slice a n cap], .pointer (some ⟨p, 0, none⟩)] w fun e w' => ∃ xo ec, e = .returned (.tuple #[.pointer xo, int i64 ec, .bool true]) /\ zan f w w' /\ R xo ec w' := by
 have h := hta0 w (zan.refl _ _)
 have hmk := make_tiers n hsz
 have hlt : (n : Int) < (n : Int) + 1 := by omega
 have hts : TS ((w.alloc (.cells #[int i64 s, int i64 le, int i64 la, int i64 wi, int i64 ke, int i64 qu, .slice a n cap] 27)).alloc (.cells (newTiers n) 66)) a n F W K :=
  h.below (((Below.refl _ _).alloc (Nat.le_refl _) _).alloc (by simp) _)
 obtain ⟨w3, hcp, HR, hB3, HZ⟩ : ∃ w3, (Builtin.copy_ #[25, 25] 3 #[.slice (some ⟨w.heap.size + 1, 0, none⟩) (n + 1) (n + 1), .slice a n cap]).run Tryz.prog ((w.alloc (.cells #[int i64 s, int i64 le, int i64 la, int i64 wi, int i64 ke, int i64 qu, .slice a n cap] 27)).alloc (.cells (newTiers n) 66)) = .ok (int i64 n) w3 /\
   Hid (w3.heap[w.heap.size + 1]? = some (.cells (row3 n F W K ++ (newTiers n).toList.drop (n * 3)).toArray 66 (0, 0))) /\ Below (w.heap.size + 1) ((w.alloc (.cells #[int i64 s, int i64 le, int i64 la, int i64 wi, int i64 ke, int i64 qu, .slice a n cap] 27)).alloc (.cells (newTiers n) 66)) w3 /\ w3.heap.size = w.heap.size + 2 := by
  generalize hW : (w.alloc (.cells #[int i64 s, int i64 le, int i64 la, int i64 wi, int i64 ke, int i64 qu, .slice a n cap] 27)) = X at hts
  have hWs : X.heap.size = w.heap.size + 1 := by rw [<- hW]; simp
  have hg : (X.alloc (.cells (newTiers n) 66)).heap[w.heap.size + 1]? = some (.cells (newTiers n) 66 (0, 0)) := by rw [<- hWs]; exact heap_alloc_last _ _
  have hr := run_copy_wide (P := Tryz.prog) (X.alloc (.cells (newTiers n) 66)) 25 25 3 66 3 (w.heap.size + 1) (n + 1) (n + 1) a n cap (newTiers n) 66 (row3 n F W K) Tryz.underlying25 (by kernel_rfl) hg
   (by rw [zbu]; simp) hts.cells (by rw [zbu, size_newTiers]; omega) (row3_one n F W K)
  have hm : Nat.min n (n + 1) = n := by simp
  rw [hm, zbu] at hr
  refine ⟨_, hr, setRow_heap _ _ _ _ _ _ hg, below_setRow (Below.refl _ _) (Nat.le_refl _) _, ?_⟩
  simp [World.setRow, hWs]
 have HS : Hid (w3.heap.size = w.heap.size + 2) := HZ
 clear HZ
 have hx : ∀ j, j < 3 -> ∃ v, w3.cell? ⟨w.heap.size + 1, n * 3 + j, none⟩ = some v := fun j hj => by
  rw [cell_of_block HR.out]
  exact ⟨_, Array.getElem?_eq_getElem (by simp [zbu, size_newTiers]; omega)⟩
 obtain ⟨v0, x0⟩ := hx 0 (by omega)
 obtain ⟨v1, x1⟩ := hx 1 (by omega)
 obtain ⟨v2, x2⟩ := hx 2 (by omega)
 have x0 : w3.cell? ⟨w.heap.size + 1, n * 3, none⟩ = some v0 := x0
 clear hx
 have hfz : ∀ o, w3.frozen? ⟨w.heap.size + 1, o, none⟩ = false := fun o => unfrozen_of_block HR.out o
 obtain ⟨_, c0, c1, c2, c3, c4, c5, c6⟩ := ((CF.made w 27 (0, 0) s le la wi ke qu a n cap).below (((Below.refl (w.heap.size + 1) _).alloc (by simp) _)) (by omega)).below hB3 (by omega)
 have ht3 : TS w3 (some ⟨w.heap.size + 1, 0, none⟩) n F W K := TS.of_row HR.out
 have hw3 : w.heap.size + 1 < w3.heap.size := by have := HS.out; omega
 have hB03 : Below w.heap.size w w3 := (((Below.refl _ _).alloc (Nat.le_refl _) _).alloc (by simp) _).trans (hB3.mono (by omega))
 have hm : ∀ (C : Array Value) (t : TypeId), TS ((((w3.setCell ⟨w.heap.size + 1, n * 3, none⟩ (int i64 (-77))).setCell ⟨w.heap.size + 1, n * 3 + 1, none⟩ (int i64 0)).setCell ⟨w.heap.size + 1, n * 3 + 2, none⟩ (int i64 0)).alloc (.cells C t)) (some ⟨w.heap.size + 1, 0, none⟩) n F W K /\
   ((((w3.setCell ⟨w.heap.size + 1, n * 3, none⟩ (int i64 (-77))).setCell ⟨w.heap.size + 1, n * 3 + 1, none⟩ (int i64 0)).setCell ⟨w.heap.size + 1, n * 3 + 2, none⟩ (int i64 0)).alloc (.cells C t)).cell? ⟨w.heap.size + 1, n * 3, none⟩ = some (int i64 (-77)) /\
   Below (w.heap.size + 1) w3 ((((w3.setCell ⟨w.heap.size + 1, n * 3, none⟩ (int i64 (-77))).setCell ⟨w.heap.size + 1, n * 3 + 1, none⟩ (int i64 0)).setCell ⟨w.heap.size + 1, n * 3 + 2, none⟩ (int i64 0)).alloc (.cells C t)) /\
   ((((w3.setCell ⟨w.heap.size + 1, n * 3, none⟩ (int i64 (-77))).setCell ⟨w.heap.size + 1, n * 3 + 1, none⟩ (int i64 0)).setCell ⟨w.heap.size + 1, n * 3 + 2, none⟩ (int i64 0)).alloc (.cells C t)).heap.size = w3.heap.size + 1 := by
  intro C t
  have hs : (((w3.setCell ⟨w.heap.size + 1, n * 3, none⟩ (int i64 (-77))).setCell ⟨w.heap.size + 1, n * 3 + 1, none⟩ (int i64 0)).setCell ⟨w.heap.size + 1, n * 3 + 2, none⟩ (int i64 0)).heap.size = w3.heap.size := by simp [World.setCell]
  have hB : Below (w.heap.size + 1) w3 (((w3.setCell ⟨w.heap.size + 1, n * 3, none⟩ (int i64 (-77))).setCell ⟨w.heap.size + 1, n * 3 + 1, none⟩ (int i64 0)).setCell ⟨w.heap.size + 1, n * 3 + 2, none⟩ (int i64 0)) :=
   (((Below.refl (w.heap.size + 1) w3).setCell (p := ⟨w.heap.size + 1, n * 3, none⟩) (Nat.le_refl (w.heap.size + 1)) (int i64 (-77))).setCell (p := ⟨w.heap.size + 1, n * 3 + 1, none⟩) (Nat.le_refl (w.heap.size + 1)) (int i64 0)).setCell (p := ⟨w.heap.size + 1, n * 3 + 2, none⟩) (Nat.le_refl (w.heap.size + 1)) (int i64 0)
  have hx : (((w3.setCell ⟨w.heap.size + 1, n * 3, none⟩ (int i64 (-77))).setCell ⟨w.heap.size + 1, n * 3 + 1, none⟩ (int i64 0)).setCell ⟨w.heap.size + 1, n * 3 + 2, none⟩ (int i64 0)).cell? ⟨w.heap.size + 1, n * 3, none⟩ = some (int i64 (-77)) := by
   rw [World.cell?_setCell_other _ _ _ _ (by simp), World.cell?_setCell_other _ _ _ _ (by simp)]
   exact World.cell?_setCell_same _ _ _ x0
  have ht := ((ht3.setCell (n * 3) (int i64 (-77)) (by omega)).setCell (n * 3 + 1) (int i64 0) (by omega)).setCell (n * 3 + 2) (int i64 0) (by omega)
  generalize (((w3.setCell ⟨w.heap.size + 1, n * 3, none⟩ (int i64 (-77))).setCell ⟨w.heap.size + 1, n * 3 + 1, none⟩ (int i64 0)).setCell ⟨w.heap.size + 1, n * 3 + 2, none⟩ (int i64 0)) = Y at hs hB hx ht ⊢
  have hA : Below Y.heap.size Y (Y.alloc (.cells C t)) := (Below.refl _ _).alloc (Nat.le_refl _) _
  exact ⟨ht.below hA, (hA.cell (p := ⟨w.heap.size + 1, n * 3, none⟩) (show w.heap.size + 1 < _ by rw [hs]; omega)).trans hx, hB.trans (hA.mono (by omega)), by simp [hs]⟩
 have hfa : ¬ f (w.heap.size + 1) := fun e => by have := hf _ e; omega
 have hfw : ¬ f w.heap.size := fun e => by have := hf _ e; omega
 obtain ⟨ht4, hx4, hB4, hs4⟩ := hm #[int i64 s, int i64 le, int i64 la, int i64 wi, int i64 ke, int i64 qu, .slice (some ⟨w.heap.size + 1, 0, none⟩) n (n + 1)] 27
 have hB04 := hB03.trans (hB4.mono (by omega))
 have HOP := zab (HO _ hB04 (by rw [hs4, HS.out]) (fun w' hk => ht4.keptb hk hfa))
 have hrw3 : Rowy w3 (w.heap.size + 1) ((n + 1) * 3) := ⟨_, _, HR.out, by simp [zbu, size_newTiers]; omega⟩
 have hrw4 : Rowy ((((w3.setCell ⟨w.heap.size + 1, n * 3, none⟩ (int i64 (-77))).setCell ⟨w.heap.size + 1, n * 3 + 1, none⟩ (int i64 0)).setCell ⟨w.heap.size + 1, n * 3 + 2, none⟩ (int i64 0)).alloc (.cells #[int i64 s, int i64 le, int i64 la, int i64 wi, int i64 ke, int i64 qu, .slice (some ⟨w.heap.size + 1, 0, none⟩) n (n + 1)] 27)) (w.heap.size + 1) ((n + 1) * 3) := (((hrw3.set (n * 3) (int i64 (-77))).set (n * 3 + 1) (int i64 0)).set (n * 3 + 2) (int i64 0)).kept (f := fun _ => False) (zan.of_below ((Below.refl _ _).alloc (Nat.le_refl _) _)) (fun h => h)
 have HRW := zab hrw4
 have HCF := zab ((show CF w3 w.heap.size s le la wi ke qu a n cap from ⟨by omega, c0, c1, c2, c3, c4, c5, c6⟩).below hB4 (by omega))
 clear hrw3 hrw4
 have HT4 := zab ht4
 have HX4 := zab hx4
 have HB4 := zab hB4
 have HB04 := zab hB04
 have HS4 := zab hs4
 clear hm ht4 hx4 hB4 hs4 hB04 HO
 have HH := zab h
 go_enter Tryz.func48, Tryz.ntmps48
 go_wp2_with fail
 generalize ((((w3.setCell ⟨w.heap.size + 1, n * 3, none⟩ (int i64 (-77))).setCell ⟨w.heap.size + 1, n * 3 + 1, none⟩ (int i64 0)).setCell ⟨w.heap.size + 1, n * 3 + 2, none⟩ (int i64 0)).alloc (.cells #[int i64 s, int i64 le, int i64 la, int i64 wi, int i64 ke, int i64 qu, .slice (some ⟨w.heap.size + 1, 0, none⟩) n (n + 1)] 27)) = W4 at *
 refine (ud HOP).mono ?_
 rintro e w5 ⟨xo, ec, rfl, hk5, hr5⟩
 have hs4 : W4.heap.size = w3.heap.size + 1 := ud HS4
 have hs3 : w3.heap.size = w.heap.size + 2 := HS.out
 have hx5 := (zbv hk5 hfa (show w.heap.size + 1 < W4.heap.size by omega)).trans (ud HX4)
 have ht5 := (ud HT4).keptb hk5 hfa
 have hkw5 : zan f w w5 := (zan.of_below (f := f) (ud HB04)).trans hk5 (fun _ _ h => h)
 have hta := hta0 w5 hkw5
 have hrw5 := (ud HRW).kept hk5 hfa
 have hcf5 := (ud HCF).kept hk5 hfw
 obtain ⟨hw5, c0', c1', c2', c3', c4', c5', c6'⟩ := id hcf5
 have HKW := zab hkw5
 have HRW5 := zab hrw5
 have HCF5 := zab hcf5
 have HR5 := zab hr5
 have ha5 : w.heap.size + 1 < w5.heap.size := hrw5.lt
 clear HRW HCF HT4 HX4 HB4 HB04 HS4 hkw5 hrw5 hcf5 hr5 hcp hmk x0 x1 x2 hfz ht3 hB03 hts HR HS hB3 hw3 HOP hs3 hs4 hk5 hta0 c0 c1 c2 c3 c4 c5 c6
 go_wp2_with fail
 go_loopw [12, 13] (fun x y wr => ∃ (k : Nat), k <= n /\ x = .bool true /\ y = int i64 k /\ Below w5.heap.size w5 wr) (fun _ y _ => n - (intOf y).toNat)
 case atStart => exact ⟨0, Nat.zero_le _, rfl, rfl, Below.refl _ _⟩
 case round =>
  obtain ⟨k, hk, rfl, rfl, hb⟩ := hrel
  obtain ⟨_, c0, c1, c2, c3, c4, c5, c6⟩ := (ud HCF5).below hb hw5
  have hwr : w.heap.size < wr.heap.size := Nat.lt_of_lt_of_le hw5 hb.size
  by_cases hkl : k < n
  ·have ht6 := ht5.below hb
   have ha6 := hta.below hb
   obtain ⟨b0, off0, e0, hz0, hc0⟩ := ht6 (by omega)
   cases e0
   obtain ⟨b, off, rfl, hbz, hc⟩ := ha6 (by omega)
   obtain ⟨g1, g2, g3⟩ := hc0 k hkl
   simp only [Nat.zero_add] at g1 g2 g3
   obtain ⟨h1, h2, h3⟩ := hc k hkl
   have hkn : (k : Int) < n := by omega
   have hkn1 : (k : Int) < (n : Int) + 1 := by omega
   clear hc hc0
   have hne : Nonempty (zaf wr.heap.size wr) := zaf.some _ _
   have hlc := fun (u : zaf wr.heap.size wr) b o h => u.cell b o h
   go_wp2_with fail
   refine zad wr.heap.size (by kernel_rfl) (by kernel_rfl) ?_
   repeat (go_big_quiet_step (fail))
   refine wpQuiet_nil ?_
   rintro ⟨w1, hb1⟩
   clear hlc hne
   dsimp only
   go_wp2_with fail
   go_roundw
   case rel => exact ⟨k + 1, by omega, rfl, by go_num, hb.trans (hb1.mono hb.size)⟩
   case measure => simp [intOf]; omega
  ·have HBR := zab hb
   have HRWR := zab ((ud HRW5).kept (zan.of_below (f := fun _ => False) hb) (fun h => h))
   have HCFR := zab ((ud HCF5).below hb hw5)
   have hkn : ¬ (k : Int) < n := by omega
   clear hb c0 c1 c2 c3 c4 c5 c6 c0' c1' c2' c3' c4' c5' c6' HRW5 HCF5 hx5 ht5 hta
   go_wp2_with fail
   go_loopw [14] (fun y wq => ∃ (k : Nat), k <= n + 1 /\ y = int i64 k /\ zan (fun j => j = w.heap.size + 1) wr wq /\ Rowy wq (w.heap.size + 1) ((n + 1) * 3)) (fun y _ => n + 1 - (intOf y).toNat)
   case atStart => exact ⟨0, Nat.zero_le _, rfl, zan.refl _ _, ud HRWR⟩
   case round =>
    obtain ⟨j, hj, rfl, hkq, hrq⟩ := hrel
    obtain ⟨hwq, c0, c1, c2, c3, c4, c5, c6⟩ := (ud HCFR).kept hkq (by omega)
    by_cases hjl : j <= n
    ·obtain ⟨v0, x0⟩ := hrq.cell (j * 3) (by omega)
     obtain ⟨v1, x1⟩ := hrq.cell (j * 3 + 1) (by omega)
     obtain ⟨v2, x2⟩ := hrq.cell (j * 3 + 2) (by omega)
     have hfz := fun o => hrq.free o
     have hjn : (j : Int) <= n := by omega
     have hjn1 : (j : Int) < (n : Int) + 1 := by omega
     have hal := hrq.lt
     have HKQ := zab hkq
     have HRQ := zab hrq
     clear hkq hrq
     go_wp2_with fail
     go_roundw
     case rel => exact ⟨j + 1, by omega, by go_num, zag (zag (zag (ud HKQ) rfl) rfl) rfl, (((ud HRQ).set _ _).set _ _).set _ _⟩
     case measure => simp [intOf]; omega
    ·have hjn : ¬ (j : Int) <= n := by omega
     have HKQ := zab hkq
     clear hkq hrq c0 c1 c2 c3 c4 c5 c6
     go_wp2_with (go_at_call 98; refine (num_any _ _).mono ?_; rintro e V1 ⟨rfl, hV1⟩; rw [hV1]; clear hV1)
     have hkf : zan (fun j => j = w.heap.size + 1) w5 wr := (zan.of_below (f := fun j => j = w.heap.size + 1) (ud HBR)).trans (ud HKQ) (fun _ _ h => h)
     have hkA : zan f w wr := (ud HKW).trans hkf (fun i hi e => by omega)
     have hRR := hR xo ec w5 wr hkf (ud HR5)
     (try simp only [Exit.inBlock, Exit.then])
     refine bodyPost_ret (results_tmp3 rfl _ _ _) rfl ?_
     exact ⟨xo, ec, rfl, hkA, hRR⟩
end Go.Proofs.YtpbimdkclnekeaaGreat
