import Derived.Test.YtpbimdkclnekeaaGreatTFits0

namespace Go.Proofs.YtpbimdkclnekeaaGreat
open Value (int)
open IntKind (i64)
open Go.RowKit
set_option linter.unusedVariables false
set_option maxRecDepth 8000 in
set_option maxHeartbeats 2000000 in
theorem stp_1 {w : World} {wb : Nat} (o : Ops) (R : World -> Prop)
  (HA : ∀ w4, Below w.heap.size w w4 -> Calls Tryz.prog 20 #[.pointer (some ⟨wb, 0, none⟩), .agg #[int i64 o.fs, int i64 o.fle, int i64 o.fla, int i64 o.fwi, int i64 o.fke, int i64 o.fqu, .slice o.fa o.fn o.fcap], int i64 (-1)] w4 fun e w' => e = .returned (.bool true) /\ R w') :
  Calls Tryz.prog 21 #[.pointer (some ⟨wb, 0, none⟩), .agg #[int i64 1, int i64 o.on, int i64 (-1), int i64 o.b, int i64 o.c, .int .i32 o.v, int i64 o.te, int i64 o.tn, int i64 o.fs, int i64 o.fle, int i64 o.fla, int i64 o.fwi, int i64 o.fke, int i64 o.fqu, .slice o.fa o.fn o.fcap]] w fun e w' => e = .returned (.bool true) /\ R w' := by
 have hb0 : Below w.heap.size w (w.alloc (.cells #[int i64 1, int i64 o.on, int i64 (-1), int i64 o.b, int i64 o.c, .int .i32 o.v, int i64 o.te, int i64 o.tn, int i64 o.fs, int i64 o.fle, int i64 o.fla, int i64 o.fwi, int i64 o.fke, int i64 o.fqu, .slice o.fa o.fn o.fcap] 68)) := (Below.refl _ _).alloc (Nat.le_refl _) _
 have hl0 := zap w (.cells #[int i64 1, int i64 o.on, int i64 (-1), int i64 o.b, int i64 o.c, .int .i32 o.v, int i64 o.te, int i64 o.tn, int i64 o.fs, int i64 o.fle, int i64 o.fla, int i64 o.fwi, int i64 o.fke, int i64 o.fqu, .slice o.fa o.fn o.fcap] 68)
 have HAA := zab (HA _ hb0)
 have a0 : (w.alloc (.cells #[int i64 1, int i64 o.on, int i64 (-1), int i64 o.b, int i64 o.c, .int .i32 o.v, int i64 o.te, int i64 o.tn, int i64 o.fs, int i64 o.fle, int i64 o.fla, int i64 o.fwi, int i64 o.fke, int i64 o.fqu, .slice o.fa o.fn o.fcap] 68)).cell? ⟨w.heap.size, 0, none⟩ = some (int i64 1) := by rw [zac hl0]; rfl
 have a2 : (w.alloc (.cells #[int i64 1, int i64 o.on, int i64 (-1), int i64 o.b, int i64 o.c, .int .i32 o.v, int i64 o.te, int i64 o.tn, int i64 o.fs, int i64 o.fle, int i64 o.fla, int i64 o.fwi, int i64 o.fke, int i64 o.fqu, .slice o.fa o.fn o.fcap] 68)).cell? ⟨w.heap.size, 2, none⟩ = some (int i64 (-1)) := by rw [zac hl0]; rfl
 have a8 : (w.alloc (.cells #[int i64 1, int i64 o.on, int i64 (-1), int i64 o.b, int i64 o.c, .int .i32 o.v, int i64 o.te, int i64 o.tn, int i64 o.fs, int i64 o.fle, int i64 o.fla, int i64 o.fwi, int i64 o.fke, int i64 o.fqu, .slice o.fa o.fn o.fcap] 68)).cell? ⟨w.heap.size, 8, none⟩ = some (int i64 o.fs) := by rw [zac hl0]; rfl
 have a9 : (w.alloc (.cells #[int i64 1, int i64 o.on, int i64 (-1), int i64 o.b, int i64 o.c, .int .i32 o.v, int i64 o.te, int i64 o.tn, int i64 o.fs, int i64 o.fle, int i64 o.fla, int i64 o.fwi, int i64 o.fke, int i64 o.fqu, .slice o.fa o.fn o.fcap] 68)).cell? ⟨w.heap.size, 9, none⟩ = some (int i64 o.fle) := by rw [zac hl0]; rfl
 have a10 : (w.alloc (.cells #[int i64 1, int i64 o.on, int i64 (-1), int i64 o.b, int i64 o.c, .int .i32 o.v, int i64 o.te, int i64 o.tn, int i64 o.fs, int i64 o.fle, int i64 o.fla, int i64 o.fwi, int i64 o.fke, int i64 o.fqu, .slice o.fa o.fn o.fcap] 68)).cell? ⟨w.heap.size, 10, none⟩ = some (int i64 o.fla) := by rw [zac hl0]; rfl
 have a11 : (w.alloc (.cells #[int i64 1, int i64 o.on, int i64 (-1), int i64 o.b, int i64 o.c, .int .i32 o.v, int i64 o.te, int i64 o.tn, int i64 o.fs, int i64 o.fle, int i64 o.fla, int i64 o.fwi, int i64 o.fke, int i64 o.fqu, .slice o.fa o.fn o.fcap] 68)).cell? ⟨w.heap.size, 11, none⟩ = some (int i64 o.fwi) := by rw [zac hl0]; rfl
 have a12 : (w.alloc (.cells #[int i64 1, int i64 o.on, int i64 (-1), int i64 o.b, int i64 o.c, .int .i32 o.v, int i64 o.te, int i64 o.tn, int i64 o.fs, int i64 o.fle, int i64 o.fla, int i64 o.fwi, int i64 o.fke, int i64 o.fqu, .slice o.fa o.fn o.fcap] 68)).cell? ⟨w.heap.size, 12, none⟩ = some (int i64 o.fke) := by rw [zac hl0]; rfl
 have a13 : (w.alloc (.cells #[int i64 1, int i64 o.on, int i64 (-1), int i64 o.b, int i64 o.c, .int .i32 o.v, int i64 o.te, int i64 o.tn, int i64 o.fs, int i64 o.fle, int i64 o.fla, int i64 o.fwi, int i64 o.fke, int i64 o.fqu, .slice o.fa o.fn o.fcap] 68)).cell? ⟨w.heap.size, 13, none⟩ = some (int i64 o.fqu) := by rw [zac hl0]; rfl
 have a14 : (w.alloc (.cells #[int i64 1, int i64 o.on, int i64 (-1), int i64 o.b, int i64 o.c, .int .i32 o.v, int i64 o.te, int i64 o.tn, int i64 o.fs, int i64 o.fle, int i64 o.fla, int i64 o.fwi, int i64 o.fke, int i64 o.fqu, .slice o.fa o.fn o.fcap] 68)).cell? ⟨w.heap.size, 14, none⟩ = some (.slice o.fa o.fn o.fcap) := by rw [zac hl0]; rfl
 clear hl0 hb0 HA
 go_enter Tryz.func21, Tryz.ntmps21
 go_wp2_with fail
 generalize (w.alloc (.cells #[int i64 1, int i64 o.on, int i64 (-1), int i64 o.b, int i64 o.c, .int .i32 o.v, int i64 o.te, int i64 o.tn, int i64 o.fs, int i64 o.fle, int i64 o.fla, int i64 o.fwi, int i64 o.fke, int i64 o.fqu, .slice o.fa o.fn o.fcap] 68)) = X at *
 go_wp2_with (first | (go_at_call 20; refine (ud HAA).mono ?_; rintro e w' ⟨rfl, hR⟩) | fail)
 go_ret
 exact ⟨rfl, hR⟩
theorem kept_set0 (w : World) (g i : Nat) (v : Value) : zan (fun k => k = g) w (w.setCell ⟨g, i, none⟩ v) := zan.setCell (f := fun k => k = g) (zan.refl _ _) (p := ⟨g, i, none⟩) (fun _ => rfl) v
structure Keeps (w : World) (n : Nat) (G : Nat -> Ops) (la : Int) (Good : Nat -> World -> Prop) : Prop where
 low : ∀ k W, Good k W -> Below w.heap.size w W
 looks : ∀ k W, k <= n -> Good k W -> Calls Tryz.prog 22 #[.pointer (some ⟨w.heap.size, 0, none⟩)] W fun e w' => e = .returned (.bool true) /\ Below W.heap.size W w'
 later : ∀ k W W', Good k W -> Below W.heap.size W W' -> Good k W'
 next : ∀ k W, Good k W -> Good (k + 1) W
 start : ∀ W, Below w.heap.size w W -> W.heap[w.heap.size]? = some (.cells #[.slice none 0 0, .slice none 0 0] 63 (0, 0)) -> Good 0 W
 fst : ∀ W ta, Below w.heap.size w W -> W.heap[w.heap.size]? = some (.cells #[.slice none 0 0, .slice none 0 0] 63 (0, 0)) -> W.heap[ta]? = some (.cells #[int i64 (-1), int i64 1, int i64 0] 66 (0, 0)) -> Calls Tryz.prog 20 #[.pointer (some ⟨w.heap.size, 0, none⟩), .agg #[int i64 1, int i64 1, int i64 0, int i64 1, int i64 0, int i64 9, .slice (some ⟨ta, 0, none⟩) 1 1], int i64 (-1)] W fun e w' => e = .returned (.bool true) /\ Below w.heap.size w w' /\ ∃ pa pc, w'.heap[w.heap.size]? = some (.cells #[.slice pa 1 pc, .slice none 0 0] 63 (0, 0))
 opens : ∀ k W, k < n -> (G k).kd = 1 -> Good k W -> Calls Tryz.prog 21 #[.pointer (some ⟨w.heap.size, 0, none⟩), .agg #[int i64 (G k).kd, int i64 (G k).on, int i64 (-1), int i64 (G k).b, int i64 (G k).c, .int .i32 (G k).v, int i64 (G k).te, int i64 (G k).tn, int i64 (G k).fs, int i64 (G k).fle, int i64 (G k).fla, int i64 (G k).fwi, int i64 (G k).fke, int i64 (G k).fqu, .slice (G k).fa (G k).fn (G k).fcap]] W fun e w' => e = .returned (.bool true) /\ Good (k + 1) w'
 steps : ∀ k W, k < n -> ¬ (G k).kd = 1 -> (G k).kd <= la -> Good k W -> Calls Tryz.prog 21 #[.pointer (some ⟨w.heap.size, 0, none⟩), .agg #[int i64 (G k).kd, int i64 (G k).on, int i64 (G k).a, int i64 (G k).b, int i64 (G k).c, .int .i32 (G k).v, int i64 (G k).te, int i64 (G k).tn, int i64 (G k).fs, int i64 (G k).fle, int i64 (G k).fla, int i64 (G k).fwi, int i64 (G k).fke, int i64 (G k).fqu, .slice (G k).fa (G k).fn (G k).fcap]] W fun e w' => e = .returned (.bool true) /\ Good (k + 1) w'
set_option maxRecDepth 8000 in
set_option maxHeartbeats 4000000 in
theorem plays_gen (a : Option Addr) (n cap : Nat) (G : Nat -> Ops) (la : Int) (hla : la < 10) (w : World) (h : OS w a n G) (hn : n <= 1099511627776) (Good : Nat -> World -> Prop) (HK : Keeps w n G la Good) :
  Calls Tryz.prog 9 #[.slice a n cap, int i64 la] w fun e w' => e = .returned (.bool true) /\ Below w.heap.size w w' := by
 have e1 : ((w.alloc (.cells #[.slice none 0 0, .slice none 0 0] 63)).alloc (.cells #[int i64 (-1), int i64 1, int i64 0] 66)).heap[w.heap.size + 1]? = some (.cells #[int i64 (-1), int i64 1, int i64 0] 66 (0, 0)) := by
  have h := zap (w.alloc (.cells #[.slice none 0 0, .slice none 0 0] 63)) (.cells #[int i64 (-1), int i64 1, int i64 0] 66)
  rw [zbd] at h; exact h
 have b1 : Below w.heap.size w (w.alloc (.cells #[.slice none 0 0, .slice none 0 0] 63)) := (Below.refl _ _).alloc (Nat.le_refl _) _
 have b2 : Below (w.heap.size + 1) (w.alloc (.cells #[.slice none 0 0, .slice none 0 0] 63)) ((w.alloc (.cells #[.slice none 0 0, .slice none 0 0] 63)).alloc (.cells #[int i64 (-1), int i64 1, int i64 0] 66)) := (Below.refl _ _).alloc (by rw [zbd]; omega) _
 have e2 := (b2.block w.heap.size (by omega)).trans (zap w (.cells #[.slice none 0 0, .slice none 0 0] 63))
 have HF := zab (HK.fst _ _ (b1.trans (b2.mono (by omega))) e2 e1)
 have HKK := zab HK
 have HOS := zab h
 clear e1 b1 b2 e2 HK h
 go_enter Tryz.func9, Tryz.ntmps9
 go_wp2_with fail
 refine (ud HF).mono ?_
 rintro e w1 ⟨rfl, hb1, pa, pc, hw1⟩
 have k0 : w1.cell? ⟨w.heap.size, 0, none⟩ = some (.slice pa 1 pc) := by rw [zac hw1]; rfl
 have kf : ∀ j, w1.frozen? ⟨w.heap.size, j, none⟩ = false := fun j => zaz hw1 j
 have hwl := zaa hw1
 have hg0 : Good 0 (w1.setCell ⟨w.heap.size, 0, none⟩ (.slice none 0 0)) := (ud HKK).start _ ((zan.below (f := fun k => k = w.heap.size) (kept_set0 w1 w.heap.size 0 (.slice none 0 0)) hb1.size (fun k e => by omega)) |> hb1.trans) (zbz (i := 0) hw1 (.slice none 0 0))
 have HG0 := zab hg0
 have HB1 := zab hb1
 have HW1 := zab hw1
 clear hg0 hb1 hw1 HF
 go_wp2_with fail
 go_loopw [6, 7, 8] (fun x y _ wr => ∃ (k : Nat), k <= n /\ x = .bool true /\ y = int i64 k /\ Good k wr) (fun _ y _ _ => n - (intOf y).toNat)
 case atStart => exact ⟨0, Nat.zero_le _, rfl, rfl, ud HG0⟩
 case round =>
  obtain ⟨k, hk, rfl, rfl, hg⟩ := hrel
  have hgb := (ud HKK).low k wr hg
  by_cases hlt : k < n
  ·obtain ⟨b, off, rfl, hbz, hc⟩ := ud HOS (by omega)
   obtain ⟨x0, x1, x2, x3, x4, x5, x6, x7, x8, x9, x10, x11, x12, x13, x14⟩ := hc k hlt
   have HX := fun wz => zab ((ud HKK).opens k wz hlt)
   have HY := fun wz => zab ((ud HKK).steps k wz hlt)
   generalize G k = o at *
   have y0 := (hgb.cell (p := ⟨b, off + k * 15, none⟩) hbz).trans x0
   have y1 := (hgb.cell (p := ⟨b, off + k * 15 + 1, none⟩) hbz).trans x1
   have y2 := (hgb.cell (p := ⟨b, off + k * 15 + 2, none⟩) hbz).trans x2
   have y3 := (hgb.cell (p := ⟨b, off + k * 15 + 3, none⟩) hbz).trans x3
   have y4 := (hgb.cell (p := ⟨b, off + k * 15 + 4, none⟩) hbz).trans x4
   have y5 := (hgb.cell (p := ⟨b, off + k * 15 + 5, none⟩) hbz).trans x5
   have y6 := (hgb.cell (p := ⟨b, off + k * 15 + 6, none⟩) hbz).trans x6
   have y7 := (hgb.cell (p := ⟨b, off + k * 15 + 7, none⟩) hbz).trans x7
   have y8 := (hgb.cell (p := ⟨b, off + k * 15 + 8, none⟩) hbz).trans x8
   have y9 := (hgb.cell (p := ⟨b, off + k * 15 + 9, none⟩) hbz).trans x9
   have y10 := (hgb.cell (p := ⟨b, off + k * 15 + 10, none⟩) hbz).trans x10
   have y11 := (hgb.cell (p := ⟨b, off + k * 15 + 11, none⟩) hbz).trans x11
   have y12 := (hgb.cell (p := ⟨b, off + k * 15 + 12, none⟩) hbz).trans x12
   have y13 := (hgb.cell (p := ⟨b, off + k * 15 + 13, none⟩) hbz).trans x13
   have y14 := (hgb.cell (p := ⟨b, off + k * 15 + 14, none⟩) hbz).trans x14
   have hkn : (k : Int) < n := by omega
   have hbx := (Below.refl wr.heap.size wr).alloc (Nat.le_refl _) (.cells #[int i64 o.kd, int i64 o.on, int i64 o.a, int i64 o.b, int i64 o.c, .int .i32 o.v, int i64 o.te, int i64 o.tn, int i64 o.fs, int i64 o.fle, int i64 o.fla, int i64 o.fwi, int i64 o.fke, int i64 o.fqu, .slice o.fa o.fn o.fcap] 68)
   have hbl := zap wr (.cells #[int i64 o.kd, int i64 o.on, int i64 o.a, int i64 o.b, int i64 o.c, .int .i32 o.v, int i64 o.te, int i64 o.tn, int i64 o.fs, int i64 o.fle, int i64 o.fla, int i64 o.fwi, int i64 o.fke, int i64 o.fqu, .slice o.fa o.fn o.fcap] 68)
   have z0 : (wr.alloc (.cells #[int i64 o.kd, int i64 o.on, int i64 o.a, int i64 o.b, int i64 o.c, .int .i32 o.v, int i64 o.te, int i64 o.tn, int i64 o.fs, int i64 o.fle, int i64 o.fla, int i64 o.fwi, int i64 o.fke, int i64 o.fqu, .slice o.fa o.fn o.fcap] 68)).cell? ⟨wr.heap.size, 0, none⟩ = some (int i64 o.kd) := by rw [zac hbl]; rfl
   have z1 : (wr.alloc (.cells #[int i64 o.kd, int i64 o.on, int i64 o.a, int i64 o.b, int i64 o.c, .int .i32 o.v, int i64 o.te, int i64 o.tn, int i64 o.fs, int i64 o.fle, int i64 o.fla, int i64 o.fwi, int i64 o.fke, int i64 o.fqu, .slice o.fa o.fn o.fcap] 68)).cell? ⟨wr.heap.size, 1, none⟩ = some (int i64 o.on) := by rw [zac hbl]; rfl
   have z2 : (wr.alloc (.cells #[int i64 o.kd, int i64 o.on, int i64 o.a, int i64 o.b, int i64 o.c, .int .i32 o.v, int i64 o.te, int i64 o.tn, int i64 o.fs, int i64 o.fle, int i64 o.fla, int i64 o.fwi, int i64 o.fke, int i64 o.fqu, .slice o.fa o.fn o.fcap] 68)).cell? ⟨wr.heap.size, 2, none⟩ = some (int i64 o.a) := by rw [zac hbl]; rfl
   have z3 : (wr.alloc (.cells #[int i64 o.kd, int i64 o.on, int i64 o.a, int i64 o.b, int i64 o.c, .int .i32 o.v, int i64 o.te, int i64 o.tn, int i64 o.fs, int i64 o.fle, int i64 o.fla, int i64 o.fwi, int i64 o.fke, int i64 o.fqu, .slice o.fa o.fn o.fcap] 68)).cell? ⟨wr.heap.size, 3, none⟩ = some (int i64 o.b) := by rw [zac hbl]; rfl
   have z4 : (wr.alloc (.cells #[int i64 o.kd, int i64 o.on, int i64 o.a, int i64 o.b, int i64 o.c, .int .i32 o.v, int i64 o.te, int i64 o.tn, int i64 o.fs, int i64 o.fle, int i64 o.fla, int i64 o.fwi, int i64 o.fke, int i64 o.fqu, .slice o.fa o.fn o.fcap] 68)).cell? ⟨wr.heap.size, 4, none⟩ = some (int i64 o.c) := by rw [zac hbl]; rfl
   have z5 : (wr.alloc (.cells #[int i64 o.kd, int i64 o.on, int i64 o.a, int i64 o.b, int i64 o.c, .int .i32 o.v, int i64 o.te, int i64 o.tn, int i64 o.fs, int i64 o.fle, int i64 o.fla, int i64 o.fwi, int i64 o.fke, int i64 o.fqu, .slice o.fa o.fn o.fcap] 68)).cell? ⟨wr.heap.size, 5, none⟩ = some (.int .i32 o.v) := by rw [zac hbl]; rfl
   have z6 : (wr.alloc (.cells #[int i64 o.kd, int i64 o.on, int i64 o.a, int i64 o.b, int i64 o.c, .int .i32 o.v, int i64 o.te, int i64 o.tn, int i64 o.fs, int i64 o.fle, int i64 o.fla, int i64 o.fwi, int i64 o.fke, int i64 o.fqu, .slice o.fa o.fn o.fcap] 68)).cell? ⟨wr.heap.size, 6, none⟩ = some (int i64 o.te) := by rw [zac hbl]; rfl
   have z7 : (wr.alloc (.cells #[int i64 o.kd, int i64 o.on, int i64 o.a, int i64 o.b, int i64 o.c, .int .i32 o.v, int i64 o.te, int i64 o.tn, int i64 o.fs, int i64 o.fle, int i64 o.fla, int i64 o.fwi, int i64 o.fke, int i64 o.fqu, .slice o.fa o.fn o.fcap] 68)).cell? ⟨wr.heap.size, 7, none⟩ = some (int i64 o.tn) := by rw [zac hbl]; rfl
   have z8 : (wr.alloc (.cells #[int i64 o.kd, int i64 o.on, int i64 o.a, int i64 o.b, int i64 o.c, .int .i32 o.v, int i64 o.te, int i64 o.tn, int i64 o.fs, int i64 o.fle, int i64 o.fla, int i64 o.fwi, int i64 o.fke, int i64 o.fqu, .slice o.fa o.fn o.fcap] 68)).cell? ⟨wr.heap.size, 8, none⟩ = some (int i64 o.fs) := by rw [zac hbl]; rfl
   have z9 : (wr.alloc (.cells #[int i64 o.kd, int i64 o.on, int i64 o.a, int i64 o.b, int i64 o.c, .int .i32 o.v, int i64 o.te, int i64 o.tn, int i64 o.fs, int i64 o.fle, int i64 o.fla, int i64 o.fwi, int i64 o.fke, int i64 o.fqu, .slice o.fa o.fn o.fcap] 68)).cell? ⟨wr.heap.size, 9, none⟩ = some (int i64 o.fle) := by rw [zac hbl]; rfl
   have z10 : (wr.alloc (.cells #[int i64 o.kd, int i64 o.on, int i64 o.a, int i64 o.b, int i64 o.c, .int .i32 o.v, int i64 o.te, int i64 o.tn, int i64 o.fs, int i64 o.fle, int i64 o.fla, int i64 o.fwi, int i64 o.fke, int i64 o.fqu, .slice o.fa o.fn o.fcap] 68)).cell? ⟨wr.heap.size, 10, none⟩ = some (int i64 o.fla) := by rw [zac hbl]; rfl
   have z11 : (wr.alloc (.cells #[int i64 o.kd, int i64 o.on, int i64 o.a, int i64 o.b, int i64 o.c, .int .i32 o.v, int i64 o.te, int i64 o.tn, int i64 o.fs, int i64 o.fle, int i64 o.fla, int i64 o.fwi, int i64 o.fke, int i64 o.fqu, .slice o.fa o.fn o.fcap] 68)).cell? ⟨wr.heap.size, 11, none⟩ = some (int i64 o.fwi) := by rw [zac hbl]; rfl
   have z12 : (wr.alloc (.cells #[int i64 o.kd, int i64 o.on, int i64 o.a, int i64 o.b, int i64 o.c, .int .i32 o.v, int i64 o.te, int i64 o.tn, int i64 o.fs, int i64 o.fle, int i64 o.fla, int i64 o.fwi, int i64 o.fke, int i64 o.fqu, .slice o.fa o.fn o.fcap] 68)).cell? ⟨wr.heap.size, 12, none⟩ = some (int i64 o.fke) := by rw [zac hbl]; rfl
   have z13 : (wr.alloc (.cells #[int i64 o.kd, int i64 o.on, int i64 o.a, int i64 o.b, int i64 o.c, .int .i32 o.v, int i64 o.te, int i64 o.tn, int i64 o.fs, int i64 o.fle, int i64 o.fla, int i64 o.fwi, int i64 o.fke, int i64 o.fqu, .slice o.fa o.fn o.fcap] 68)).cell? ⟨wr.heap.size, 13, none⟩ = some (int i64 o.fqu) := by rw [zac hbl]; rfl
   have z14 : (wr.alloc (.cells #[int i64 o.kd, int i64 o.on, int i64 o.a, int i64 o.b, int i64 o.c, .int .i32 o.v, int i64 o.te, int i64 o.tn, int i64 o.fs, int i64 o.fle, int i64 o.fla, int i64 o.fwi, int i64 o.fke, int i64 o.fqu, .slice o.fa o.fn o.fcap] 68)).cell? ⟨wr.heap.size, 14, none⟩ = some (.slice o.fa o.fn o.fcap) := by rw [zac hbl]; rfl
   have hgX := (ud HKK).later k wr _ hg hbx
   have HGX := zab hgX
   have HBX := zab hbx
   clear hc x0 x1 x2 x3 x4 x5 x6 x7 x8 x9 x10 x11 x12 x13 x14 hgX hbx k0 kf hwl
   by_cases hkl : la < o.kd
   ·have HN := zab ((ud HKK).next k _ (ud HGX))
    clear hg hgb HX HY HOS HKK
    go_wp2_with fail
    go_roundw
    case rel => exact ⟨k + 1, by omega, rfl, by go_num, ud HN⟩
    case measure => simp [intOf]; omega
   ·have HLO := fun W hh => zab ((ud HKK).looks (k + 1) W (by omega) hh)
    have HLA := fun W W' hh hl => zab ((ud HKK).later (k + 1) W W' hh hl)
    by_cases hk1 : o.kd = 1
    ·have hfr := zaz hbl
     have hgX := (ud HKK).later k wr _ hg ((Below.refl wr.heap.size wr).alloc (Nat.le_refl _) (.cells #[int i64 o.kd, int i64 o.on, int i64 (-1), int i64 o.b, int i64 o.c, .int .i32 o.v, int i64 o.te, int i64 o.tn, int i64 o.fs, int i64 o.fle, int i64 o.fla, int i64 o.fwi, int i64 o.fke, int i64 o.fqu, .slice o.fa o.fn o.fcap] 68))
     have HGS := zab (ud (HX _) hk1 hgX)
     clear hbl hg hgb HX HY HOS hgX HGX HBX
     obtain ⟨kd, on, oa, ob, oc, ov, ote, otn, ofs, ofle, ofla, ofwi, ofke, ofqu, ofa, ofn, ofcap⟩ := o
     dsimp only at *
     subst hk1
     go_wp2_with (first
      | (go_at_call 21; refine (ud HGS).mono ?_; rintro e w5 ⟨rfl, hg5⟩)
      | (go_at_call 22; refine (ud (HLO _ hg5)).mono ?_; rintro e w6 ⟨rfl, hb6⟩))
     go_roundw
     case rel => exact ⟨k + 1, by omega, rfl, by go_num, ud (HLA _ _ hg5 hb6)⟩
     case measure => simp [intOf]; omega
    ·have hkle : o.kd <= la := by omega
     have HYY := zab (ud (HY _) hk1 hkle (ud HGX))
     clear hbl hg hgb HX HY HOS HGX HBX hkle
     go_wp2_with (first
      | (go_at_call 21; refine (ud HYY).mono ?_; rintro e w5 ⟨rfl, hg5⟩)
      | (go_at_call 22; refine (ud (HLO _ hg5)).mono ?_; rintro e w6 ⟨rfl, hb6⟩))
     go_roundw
     case rel => exact ⟨k + 1, by omega, rfl, by go_num, ud (HLA _ _ hg5 hb6)⟩
     case measure => simp [intOf]; omega
  ·go_wp2
   go_ret
   exact ⟨rfl, hgb⟩
end Go.Proofs.YtpbimdkclnekeaaGreat
