import Derived.Test.YtpbimdkclnekeaaGreatTConf3
import Derived.Test.YtpbimdkclnekeaaGreatTOpen
import Derived.Test.YtpbimdkclnekeaaGreatTRef2
import Derived.Test.YtpbimdkclnekeaaGreatTKit0

namespace Go.Proofs.YtpbimdkclnekeaaGreat
open Value (int)
open IntKind (i64)
set_option linter.unusedVariables false
def OS (w : World) (a : Option Addr) (n : Nat) (G : Nat -> Ops) : Prop :=
 0 < n -> ∃ b off, a = some ⟨b, off, none⟩ /\ b < w.heap.size /\ ∀ i, i < n -> w.cell? ⟨b, off + i * 15, none⟩ = some (int i64 (G i).kd) /\ w.cell? ⟨b, off + i * 15 + 1, none⟩ = some (int i64 (G i).on) /\ w.cell? ⟨b, off + i * 15 + 2, none⟩ = some (int i64 (G i).a) /\ w.cell? ⟨b, off + i * 15 + 3, none⟩ = some (int i64 (G i).b) /\ w.cell? ⟨b, off + i * 15 + 4, none⟩ = some (int i64 (G i).c) /\ w.cell? ⟨b, off + i * 15 + 5, none⟩ = some (.int .i32 (G i).v) /\ w.cell? ⟨b, off + i * 15 + 6, none⟩ = some (int i64 (G i).te) /\ w.cell? ⟨b, off + i * 15 + 7, none⟩ = some (int i64 (G i).tn) /\ w.cell? ⟨b, off + i * 15 + 8, none⟩ = some (int i64 (G i).fs) /\ w.cell? ⟨b, off + i * 15 + 9, none⟩ = some (int i64 (G i).fle) /\ w.cell? ⟨b, off + i * 15 + 10, none⟩ = some (int i64 (G i).fla) /\ w.cell? ⟨b, off + i * 15 + 11, none⟩ = some (int i64 (G i).fwi) /\ w.cell? ⟨b, off + i * 15 + 12, none⟩ = some (int i64 (G i).fke) /\ w.cell? ⟨b, off + i * 15 + 13, none⟩ = some (int i64 (G i).fqu) /\ w.cell? ⟨b, off + i * 15 + 14, none⟩ = some (.slice (G i).fa (G i).fn (G i).fcap)
structure Ops.fits (o : Ops) : Prop where
 on : -9223372036854775808 <= o.on /\ o.on <= 9223372036854775807
 a : -9223372036854775808 <= o.a /\ o.a <= 9223372036854775807
 v : -2147483648 <= o.v /\ o.v <= 2147483647
 te : -9223372036854775808 <= o.te /\ o.te <= 9223372036854775807
 tn : -9223372036854775808 <= o.tn /\ o.tn <= 9223372036854775807
 size : 24 * (o.fn + 1) <= 281474976710656
end Go.Proofs.YtpbimdkclnekeaaGreat

namespace Go.Proofs.YtpbimdkclnekeaaGreat
open Value (int)
open IntKind (i64)
open Go.RowKit
set_option linter.unusedVariables false
theorem mod_nat (c : Int) (n : Nat) (hn : 0 < n) : ∃ i : Nat, c % (n : Int) = i /\ i < n := by
 have h0 := Int.emod_nonneg c (show (n : Int) ≠ 0 by omega)
 have h1 := Int.emod_lt_of_pos c (show (0 : Int) < n by omega)
 exact ⟨(c % (n : Int)).toNat, by omega, by omega⟩
set_option maxRecDepth 8000 in
set_option maxHeartbeats 1000000 in
theorem pick_at (c : Int) (n : Nat) (hc : -9223372036854775808 <= c /\ c <= 9223372036854775807) (hn : 0 < n) :
  ∃ i : Nat, i < n /\ ∀ w : World, Calls Tryz.prog 54 #[int i64 c, int i64 n] w fun e w' => e = .returned (int i64 i) /\ w' = w := by
 have hn0 : ¬ (n : Int) = 0 := by omega
 by_cases h : c < 0
 ·obtain ⟨i, hi, hl⟩ := mod_nat (-(c + 1)) n hn
  refine ⟨i, hl, fun w => ?_⟩
  have HI := zab hi
  clear hi
  go_enter Tryz.func54, Tryz.ntmps54
  go_wp2
  go_ret
  have e1 : -(c + 1).tmod (n : Int) = (-(c + 1)) % (n : Int) := by rw [<- Int.neg_tmod, Int.tmod_eq_emod_of_nonneg (by omega)]
  exact ⟨by show Ending.returned (int i64 (-(c + 1).tmod (n : Int))) = _; rw [e1, ud HI], rfl⟩
 ·obtain ⟨i, hi, hl⟩ := mod_nat c n hn
  refine ⟨i, hl, fun w => ?_⟩
  have HI := zab hi
  clear hi
  go_enter Tryz.func54, Tryz.ntmps54
  go_wp2
  go_ret
  exact ⟨by show Ending.returned (int i64 (c % (n : Int))) = _; rw [ud HI], rfl⟩
theorem ptr_at {w : World} {B : Nat} {e : TypeId} {g : Nat} {cap i po : Nat} {ps : List Nat} (h : w.ownsRow B e 1 (.slice (some ⟨g, 0, none⟩) ps.length cap) ps.length (ps.map (fun q => .pointer (some ⟨q, 0, none⟩)))) (hi : ps[i]? = some po) : w.cell? ⟨g, i, none⟩ = some (.pointer (some ⟨po, 0, none⟩)) := by
 have hl : i < ps.length := (List.getElem?_eq_some_iff.1 hi).1
 rw [h.cellAt i (by simpa using hl)]
 simp [hi]
set_option maxRecDepth 8000 in
set_option maxHeartbeats 2000000 in
theorem stp_none {w : World} {wb : Nat} {cap : Nat} {a : Option Addr} {lv : Value} (hw : w.heap[wb]? = some (.cells #[.slice a 0 cap, lv] 63 (0, 0))) (o : Ops) (kk : Int) (k1 : ¬ kk = 1) (k13 : ¬ kk = 13) :
  Calls Tryz.prog 21 #[.pointer (some ⟨wb, 0, none⟩), .agg #[int i64 kk, int i64 o.on, int i64 o.a, int i64 o.b, int i64 o.c, .int .i32 o.v, int i64 o.te, int i64 o.tn, int i64 o.fs, int i64 o.fle, int i64 o.fla, int i64 o.fwi, int i64 o.fke, int i64 o.fqu, .slice o.fa o.fn o.fcap]] w fun e w' => e = .returned (.bool true) /\ Below w.heap.size w w' := by
 have hwl := zaa hw
 have hb0 : Below w.heap.size w (w.alloc (.cells #[int i64 kk, int i64 o.on, int i64 o.a, int i64 o.b, int i64 o.c, .int .i32 o.v, int i64 o.te, int i64 o.tn, int i64 o.fs, int i64 o.fle, int i64 o.fla, int i64 o.fwi, int i64 o.fke, int i64 o.fqu, .slice o.fa o.fn o.fcap] 68)) := (Below.refl _ _).alloc (Nat.le_refl _) _
 have hl0 := zap w (.cells #[int i64 kk, int i64 o.on, int i64 o.a, int i64 o.b, int i64 o.c, .int .i32 o.v, int i64 o.te, int i64 o.tn, int i64 o.fs, int i64 o.fle, int i64 o.fla, int i64 o.fwi, int i64 o.fke, int i64 o.fqu, .slice o.fa o.fn o.fcap] 68)
 have hsz : (w.alloc (.cells #[int i64 kk, int i64 o.on, int i64 o.a, int i64 o.b, int i64 o.c, .int .i32 o.v, int i64 o.te, int i64 o.tn, int i64 o.fs, int i64 o.fle, int i64 o.fla, int i64 o.fwi, int i64 o.fke, int i64 o.fqu, .slice o.fa o.fn o.fcap] 68)).heap.size = w.heap.size + 1 := zbd w _
 have hwX := (hb0.block wb hwl).trans hw
 have HB := zab hb0
 have z0 : (w.alloc (.cells #[int i64 kk, int i64 o.on, int i64 o.a, int i64 o.b, int i64 o.c, .int .i32 o.v, int i64 o.te, int i64 o.tn, int i64 o.fs, int i64 o.fle, int i64 o.fla, int i64 o.fwi, int i64 o.fke, int i64 o.fqu, .slice o.fa o.fn o.fcap] 68)).cell? ⟨wb, 0, none⟩ = some (.slice a 0 cap) := by rw [zac hwX]; rfl
 have y0 : (w.alloc (.cells #[int i64 kk, int i64 o.on, int i64 o.a, int i64 o.b, int i64 o.c, .int .i32 o.v, int i64 o.te, int i64 o.tn, int i64 o.fs, int i64 o.fle, int i64 o.fla, int i64 o.fwi, int i64 o.fke, int i64 o.fqu, .slice o.fa o.fn o.fcap] 68)).cell? ⟨w.heap.size, 0, none⟩ = some (int i64 kk) := by rw [zac hl0]; rfl
 clear hb0 hl0 hsz hwX hw
 go_enter Tryz.func21, Tryz.ntmps21
 go_wp2_with fail
 go_ret
 exact ⟨rfl, ud HB⟩
set_option maxRecDepth 8000 in
set_option maxHeartbeats 2000000 in
theorem stp_2 {B : Nat} {w : World} {wb : Nat} {pv lv : Value} {ps : List Nat} (hw : w.heap[wb]? = some (.cells #[pv, lv] 63 (0, 0))) (hps : w.ownsRow B 103 1 pv ps.length (ps.map (fun q => .pointer (some ⟨q, 0, none⟩)))) {i po : Nat} (hpi : ps[i]? = some po) (hpo : po < w.heap.size) (hgo : w.cell? ⟨po, 14, none⟩ = some (.bool false)) (o : Ops) (hpk : ∀ w : World, Calls Tryz.prog 54 #[int i64 o.on, int i64 ps.length] w fun e w' => e = .returned (int i64 i) /\ w' = w) (R : World -> Prop)
  (HA : ∀ w4, Below w.heap.size w w4 -> Calls Tryz.prog 55 #[.pointer (some ⟨po, 0, none⟩), .agg #[int i64 2, int i64 o.on, int i64 o.a, int i64 o.b, int i64 o.c, .int .i32 o.v, int i64 o.te, int i64 o.tn, int i64 o.fs, int i64 o.fle, int i64 o.fla, int i64 o.fwi, int i64 o.fke, int i64 o.fqu, .slice o.fa o.fn o.fcap]] w4 fun e w' => e = .returned (.bool true) /\ R w') :
  Calls Tryz.prog 21 #[.pointer (some ⟨wb, 0, none⟩), .agg #[int i64 2, int i64 o.on, int i64 o.a, int i64 o.b, int i64 o.c, .int .i32 o.v, int i64 o.te, int i64 o.tn, int i64 o.fs, int i64 o.fle, int i64 o.fla, int i64 o.fwi, int i64 o.fke, int i64 o.fqu, .slice o.fa o.fn o.fcap]] w fun e w' => e = .returned (.bool true) /\ R w' := by
 obtain ⟨pa, pcap, rfl⟩ := zah hps
 have hil : i < ps.length := (List.getElem?_eq_some_iff.1 hpi).1
 obtain ⟨gb, gcap, hgv, _, hgl⟩ := hps.form (by omega)
 cases hgv
 have hwl := zaa hw
 have hb0 : Below w.heap.size w (w.alloc (.cells #[int i64 2, int i64 o.on, int i64 o.a, int i64 o.b, int i64 o.c, .int .i32 o.v, int i64 o.te, int i64 o.tn, int i64 o.fs, int i64 o.fle, int i64 o.fla, int i64 o.fwi, int i64 o.fke, int i64 o.fqu, .slice o.fa o.fn o.fcap] 68)) := (Below.refl _ _).alloc (Nat.le_refl _) _
 have hl0 := zap w (.cells #[int i64 2, int i64 o.on, int i64 o.a, int i64 o.b, int i64 o.c, .int .i32 o.v, int i64 o.te, int i64 o.tn, int i64 o.fs, int i64 o.fle, int i64 o.fla, int i64 o.fwi, int i64 o.fke, int i64 o.fqu, .slice o.fa o.fn o.fcap] 68)
 have hsz : (w.alloc (.cells #[int i64 2, int i64 o.on, int i64 o.a, int i64 o.b, int i64 o.c, .int .i32 o.v, int i64 o.te, int i64 o.tn, int i64 o.fs, int i64 o.fle, int i64 o.fla, int i64 o.fwi, int i64 o.fke, int i64 o.fqu, .slice o.fa o.fn o.fcap] 68)).heap.size = w.heap.size + 1 := zbd w _
 have hwX := (hb0.block wb hwl).trans hw
 have hc0 := ptr_at hps hpi
 have hcX := ((hb0.cell (p := ⟨gb, i, none⟩) hgl)).trans hc0
 have hgX := ((hb0.cell (p := ⟨po, 14, none⟩) hpo)).trans hgo
 have hin : (i : Int) < (ps.length : Int) := by omega
 have hne1 : ¬ (ps.length : Int) = 0 := by omega
 have HB := zab hb0
 have HPK := fun W => zab (hpk W)
 have z0 : (w.alloc (.cells #[int i64 2, int i64 o.on, int i64 o.a, int i64 o.b, int i64 o.c, .int .i32 o.v, int i64 o.te, int i64 o.tn, int i64 o.fs, int i64 o.fle, int i64 o.fla, int i64 o.fwi, int i64 o.fke, int i64 o.fqu, .slice o.fa o.fn o.fcap] 68)).cell? ⟨wb, 0, none⟩ = some (.slice (some ⟨gb, 0, none⟩) ps.length pcap) := by rw [zac hwX]; rfl
 have y0 : (w.alloc (.cells #[int i64 2, int i64 o.on, int i64 o.a, int i64 o.b, int i64 o.c, .int .i32 o.v, int i64 o.te, int i64 o.tn, int i64 o.fs, int i64 o.fle, int i64 o.fla, int i64 o.fwi, int i64 o.fke, int i64 o.fqu, .slice o.fa o.fn o.fcap] 68)).cell? ⟨w.heap.size, 0, none⟩ = some (int i64 2) := by rw [zac hl0]; rfl
 have y1 : (w.alloc (.cells #[int i64 2, int i64 o.on, int i64 o.a, int i64 o.b, int i64 o.c, .int .i32 o.v, int i64 o.te, int i64 o.tn, int i64 o.fs, int i64 o.fle, int i64 o.fla, int i64 o.fwi, int i64 o.fke, int i64 o.fqu, .slice o.fa o.fn o.fcap] 68)).cell? ⟨w.heap.size, 1, none⟩ = some (int i64 o.on) := by rw [zac hl0]; rfl
 have HL := zab hl0
 have HWX : Hid ((w.alloc (.cells #[int i64 2, int i64 o.on, int i64 o.a, int i64 o.b, int i64 o.c, .int .i32 o.v, int i64 o.te, int i64 o.tn, int i64 o.fs, int i64 o.fle, int i64 o.fla, int i64 o.fwi, int i64 o.fke, int i64 o.fqu, .slice o.fa o.fn o.fcap] 68)).heap.size = w.heap.size + 1) := hsz
 have HAA := zab HA
 clear HA
 clear hps hl0 hb0 hsz hw hwX hpk hgo hc0 hpi hil
 go_enter Tryz.func21, Tryz.ntmps21
 go_wp2_with fail
 have q1 : wb < w.heap.size + 1 := by omega
 have q2 : gb < w.heap.size + 1 := by omega
 have q3 : po < w.heap.size + 1 := by omega
 have q4 : w.heap.size < w.heap.size + 1 := by omega
 clear hwl hgl hpo
 generalize (w.alloc (.cells #[int i64 2, int i64 o.on, int i64 o.a, int i64 o.b, int i64 o.c, .int .i32 o.v, int i64 o.te, int i64 o.tn, int i64 o.fs, int i64 o.fle, int i64 o.fla, int i64 o.fwi, int i64 o.fke, int i64 o.fqu, .slice o.fa o.fn o.fcap] 68)) = X at *
 generalize w.heap.size + 1 = N at *
 have hne : Nonempty (zaf N X) := zaf.some _ _
 have hlc := fun (u : zaf N X) b o h => u.cell b o h
 refine zad N (by kernel_rfl) (by kernel_rfl) ?_
 repeat (go_big_quiet_step (first | (go_at_call 54; exact Calls.later_same (ud (HPK _)))))
 refine wpQuiet_nil ?_
 rintro ⟨w1, hb1⟩
 clear hlc hne
 have hgb := (hb1.cell (p := ⟨po, 14, none⟩) q3).trans hgX
 have hX1 := (hb1.block w.heap.size q4).trans (ud HL)
 have hbw : Below w.heap.size w w1 := (ud HB).trans (hb1.mono (Nat.le_of_lt q4))
 have a0 : w1.cell? ⟨w.heap.size, 0, none⟩ = some (int i64 2) := by rw [zac hX1]; rfl
 have a1 : w1.cell? ⟨w.heap.size, 1, none⟩ = some (int i64 o.on) := by rw [zac hX1]; rfl
 have a2 : w1.cell? ⟨w.heap.size, 2, none⟩ = some (int i64 o.a) := by rw [zac hX1]; rfl
 have a3 : w1.cell? ⟨w.heap.size, 3, none⟩ = some (int i64 o.b) := by rw [zac hX1]; rfl
 have a4 : w1.cell? ⟨w.heap.size, 4, none⟩ = some (int i64 o.c) := by rw [zac hX1]; rfl
 have a5 : w1.cell? ⟨w.heap.size, 5, none⟩ = some (.int .i32 o.v) := by rw [zac hX1]; rfl
 have a6 : w1.cell? ⟨w.heap.size, 6, none⟩ = some (int i64 o.te) := by rw [zac hX1]; rfl
 have a7 : w1.cell? ⟨w.heap.size, 7, none⟩ = some (int i64 o.tn) := by rw [zac hX1]; rfl
 have a8 : w1.cell? ⟨w.heap.size, 8, none⟩ = some (int i64 o.fs) := by rw [zac hX1]; rfl
 have a9 : w1.cell? ⟨w.heap.size, 9, none⟩ = some (int i64 o.fle) := by rw [zac hX1]; rfl
 have a10 : w1.cell? ⟨w.heap.size, 10, none⟩ = some (int i64 o.fla) := by rw [zac hX1]; rfl
 have a11 : w1.cell? ⟨w.heap.size, 11, none⟩ = some (int i64 o.fwi) := by rw [zac hX1]; rfl
 have a12 : w1.cell? ⟨w.heap.size, 12, none⟩ = some (int i64 o.fke) := by rw [zac hX1]; rfl
 have a13 : w1.cell? ⟨w.heap.size, 13, none⟩ = some (int i64 o.fqu) := by rw [zac hX1]; rfl
 have a14 : w1.cell? ⟨w.heap.size, 14, none⟩ = some (.slice o.fa o.fn o.fcap) := by rw [zac hX1]; rfl
 have HAW := zab (ud HAA w1 hbw)
 dsimp only
 clear HAA hX1 hgX hcX y0 y1 z0 hb1 hbw q1 q2 q3 q4
 go_wp2_with (first | (go_at_call 55; refine (ud HAW).mono ?_; rintro e w' ⟨rfl, hR⟩) | fail)
 go_ret
 exact ⟨rfl, hR⟩
set_option maxRecDepth 8000 in
set_option maxHeartbeats 2000000 in
theorem stp_3 {B : Nat} {w : World} {wb : Nat} {pv lv : Value} {ps : List Nat} (hw : w.heap[wb]? = some (.cells #[pv, lv] 63 (0, 0))) (hps : w.ownsRow B 103 1 pv ps.length (ps.map (fun q => .pointer (some ⟨q, 0, none⟩)))) {i po : Nat} (hpi : ps[i]? = some po) (hpo : po < w.heap.size) (hgo : w.cell? ⟨po, 14, none⟩ = some (.bool false)) (o : Ops) (hpk : ∀ w : World, Calls Tryz.prog 54 #[int i64 o.on, int i64 ps.length] w fun e w' => e = .returned (int i64 i) /\ w' = w) (R : World -> Prop)
  (HA : ∀ w4, Below w.heap.size w w4 -> Calls Tryz.prog 55 #[.pointer (some ⟨po, 0, none⟩), .agg #[int i64 3, int i64 o.on, int i64 o.a, int i64 o.b, int i64 o.c, .int .i32 o.v, int i64 o.te, int i64 o.tn, int i64 o.fs, int i64 o.fle, int i64 o.fla, int i64 o.fwi, int i64 o.fke, int i64 o.fqu, .slice o.fa o.fn o.fcap]] w4 fun e w' => e = .returned (.bool true) /\ R w') :
  Calls Tryz.prog 21 #[.pointer (some ⟨wb, 0, none⟩), .agg #[int i64 3, int i64 o.on, int i64 o.a, int i64 o.b, int i64 o.c, .int .i32 o.v, int i64 o.te, int i64 o.tn, int i64 o.fs, int i64 o.fle, int i64 o.fla, int i64 o.fwi, int i64 o.fke, int i64 o.fqu, .slice o.fa o.fn o.fcap]] w fun e w' => e = .returned (.bool true) /\ R w' := by
 obtain ⟨pa, pcap, rfl⟩ := zah hps
 have hil : i < ps.length := (List.getElem?_eq_some_iff.1 hpi).1
 obtain ⟨gb, gcap, hgv, _, hgl⟩ := hps.form (by omega)
 cases hgv
 have hwl := zaa hw
 have hb0 : Below w.heap.size w (w.alloc (.cells #[int i64 3, int i64 o.on, int i64 o.a, int i64 o.b, int i64 o.c, .int .i32 o.v, int i64 o.te, int i64 o.tn, int i64 o.fs, int i64 o.fle, int i64 o.fla, int i64 o.fwi, int i64 o.fke, int i64 o.fqu, .slice o.fa o.fn o.fcap] 68)) := (Below.refl _ _).alloc (Nat.le_refl _) _
 have hl0 := zap w (.cells #[int i64 3, int i64 o.on, int i64 o.a, int i64 o.b, int i64 o.c, .int .i32 o.v, int i64 o.te, int i64 o.tn, int i64 o.fs, int i64 o.fle, int i64 o.fla, int i64 o.fwi, int i64 o.fke, int i64 o.fqu, .slice o.fa o.fn o.fcap] 68)
 have hsz : (w.alloc (.cells #[int i64 3, int i64 o.on, int i64 o.a, int i64 o.b, int i64 o.c, .int .i32 o.v, int i64 o.te, int i64 o.tn, int i64 o.fs, int i64 o.fle, int i64 o.fla, int i64 o.fwi, int i64 o.fke, int i64 o.fqu, .slice o.fa o.fn o.fcap] 68)).heap.size = w.heap.size + 1 := zbd w _
 have hwX := (hb0.block wb hwl).trans hw
 have hc0 := ptr_at hps hpi
 have hcX := ((hb0.cell (p := ⟨gb, i, none⟩) hgl)).trans hc0
 have hgX := ((hb0.cell (p := ⟨po, 14, none⟩) hpo)).trans hgo
 have hin : (i : Int) < (ps.length : Int) := by omega
 have hne1 : ¬ (ps.length : Int) = 0 := by omega
 have HB := zab hb0
 have HPK := fun W => zab (hpk W)
 have z0 : (w.alloc (.cells #[int i64 3, int i64 o.on, int i64 o.a, int i64 o.b, int i64 o.c, .int .i32 o.v, int i64 o.te, int i64 o.tn, int i64 o.fs, int i64 o.fle, int i64 o.fla, int i64 o.fwi, int i64 o.fke, int i64 o.fqu, .slice o.fa o.fn o.fcap] 68)).cell? ⟨wb, 0, none⟩ = some (.slice (some ⟨gb, 0, none⟩) ps.length pcap) := by rw [zac hwX]; rfl
 have y0 : (w.alloc (.cells #[int i64 3, int i64 o.on, int i64 o.a, int i64 o.b, int i64 o.c, .int .i32 o.v, int i64 o.te, int i64 o.tn, int i64 o.fs, int i64 o.fle, int i64 o.fla, int i64 o.fwi, int i64 o.fke, int i64 o.fqu, .slice o.fa o.fn o.fcap] 68)).cell? ⟨w.heap.size, 0, none⟩ = some (int i64 3) := by rw [zac hl0]; rfl
 have y1 : (w.alloc (.cells #[int i64 3, int i64 o.on, int i64 o.a, int i64 o.b, int i64 o.c, .int .i32 o.v, int i64 o.te, int i64 o.tn, int i64 o.fs, int i64 o.fle, int i64 o.fla, int i64 o.fwi, int i64 o.fke, int i64 o.fqu, .slice o.fa o.fn o.fcap] 68)).cell? ⟨w.heap.size, 1, none⟩ = some (int i64 o.on) := by rw [zac hl0]; rfl
 have HL := zab hl0
 have HWX : Hid ((w.alloc (.cells #[int i64 3, int i64 o.on, int i64 o.a, int i64 o.b, int i64 o.c, .int .i32 o.v, int i64 o.te, int i64 o.tn, int i64 o.fs, int i64 o.fle, int i64 o.fla, int i64 o.fwi, int i64 o.fke, int i64 o.fqu, .slice o.fa o.fn o.fcap] 68)).heap.size = w.heap.size + 1) := hsz
 have HAA := zab HA
 clear HA
 clear hps hl0 hb0 hsz hw hwX hpk hgo hc0 hpi hil
 go_enter Tryz.func21, Tryz.ntmps21
 go_wp2_with fail
 have q1 : wb < w.heap.size + 1 := by omega
 have q2 : gb < w.heap.size + 1 := by omega
 have q3 : po < w.heap.size + 1 := by omega
 have q4 : w.heap.size < w.heap.size + 1 := by omega
 clear hwl hgl hpo
 generalize (w.alloc (.cells #[int i64 3, int i64 o.on, int i64 o.a, int i64 o.b, int i64 o.c, .int .i32 o.v, int i64 o.te, int i64 o.tn, int i64 o.fs, int i64 o.fle, int i64 o.fla, int i64 o.fwi, int i64 o.fke, int i64 o.fqu, .slice o.fa o.fn o.fcap] 68)) = X at *
 generalize w.heap.size + 1 = N at *
 have hne : Nonempty (zaf N X) := zaf.some _ _
 have hlc := fun (u : zaf N X) b o h => u.cell b o h
 refine zad N (by kernel_rfl) (by kernel_rfl) ?_
 repeat (go_big_quiet_step (first | (go_at_call 54; exact Calls.later_same (ud (HPK _)))))
 refine wpQuiet_nil ?_
 rintro ⟨w1, hb1⟩
 clear hlc hne
 have hgb := (hb1.cell (p := ⟨po, 14, none⟩) q3).trans hgX
 have hX1 := (hb1.block w.heap.size q4).trans (ud HL)
 have hbw : Below w.heap.size w w1 := (ud HB).trans (hb1.mono (Nat.le_of_lt q4))
 have a0 : w1.cell? ⟨w.heap.size, 0, none⟩ = some (int i64 3) := by rw [zac hX1]; rfl
 have a1 : w1.cell? ⟨w.heap.size, 1, none⟩ = some (int i64 o.on) := by rw [zac hX1]; rfl
 have a2 : w1.cell? ⟨w.heap.size, 2, none⟩ = some (int i64 o.a) := by rw [zac hX1]; rfl
 have a3 : w1.cell? ⟨w.heap.size, 3, none⟩ = some (int i64 o.b) := by rw [zac hX1]; rfl
 have a4 : w1.cell? ⟨w.heap.size, 4, none⟩ = some (int i64 o.c) := by rw [zac hX1]; rfl
 have a5 : w1.cell? ⟨w.heap.size, 5, none⟩ = some (.int .i32 o.v) := by rw [zac hX1]; rfl
 have a6 : w1.cell? ⟨w.heap.size, 6, none⟩ = some (int i64 o.te) := by rw [zac hX1]; rfl
 have a7 : w1.cell? ⟨w.heap.size, 7, none⟩ = some (int i64 o.tn) := by rw [zac hX1]; rfl
 have a8 : w1.cell? ⟨w.heap.size, 8, none⟩ = some (int i64 o.fs) := by rw [zac hX1]; rfl
 have a9 : w1.cell? ⟨w.heap.size, 9, none⟩ = some (int i64 o.fle) := by rw [zac hX1]; rfl
 have a10 : w1.cell? ⟨w.heap.size, 10, none⟩ = some (int i64 o.fla) := by rw [zac hX1]; rfl
 have a11 : w1.cell? ⟨w.heap.size, 11, none⟩ = some (int i64 o.fwi) := by rw [zac hX1]; rfl
 have a12 : w1.cell? ⟨w.heap.size, 12, none⟩ = some (int i64 o.fke) := by rw [zac hX1]; rfl
 have a13 : w1.cell? ⟨w.heap.size, 13, none⟩ = some (int i64 o.fqu) := by rw [zac hX1]; rfl
 have a14 : w1.cell? ⟨w.heap.size, 14, none⟩ = some (.slice o.fa o.fn o.fcap) := by rw [zac hX1]; rfl
 have HAW := zab (ud HAA w1 hbw)
 dsimp only
 clear HAA hX1 hgX hcX y0 y1 z0 hb1 hbw q1 q2 q3 q4
 go_wp2_with (first | (go_at_call 55; refine (ud HAW).mono ?_; rintro e w' ⟨rfl, hR⟩) | fail)
 go_ret
 exact ⟨rfl, hR⟩
set_option maxRecDepth 8000 in
set_option maxHeartbeats 2000000 in
theorem stp_4 {B : Nat} {w : World} {wb : Nat} {pv lv : Value} {ps : List Nat} (hw : w.heap[wb]? = some (.cells #[pv, lv] 63 (0, 0))) (hps : w.ownsRow B 103 1 pv ps.length (ps.map (fun q => .pointer (some ⟨q, 0, none⟩)))) {i po : Nat} (hpi : ps[i]? = some po) (hpo : po < w.heap.size) (hgo : w.cell? ⟨po, 14, none⟩ = some (.bool false)) (o : Ops) (hpk : ∀ w : World, Calls Tryz.prog 54 #[int i64 o.on, int i64 ps.length] w fun e w' => e = .returned (int i64 i) /\ w' = w) (R : World -> Prop)
  (HA : ∀ w4, Below w.heap.size w w4 -> Calls Tryz.prog 56 #[.pointer (some ⟨wb, 0, none⟩), .pointer (some ⟨po, 0, none⟩), .agg #[int i64 4, int i64 o.on, int i64 o.a, int i64 o.b, int i64 o.c, .int .i32 o.v, int i64 o.te, int i64 o.tn, int i64 o.fs, int i64 o.fle, int i64 o.fla, int i64 o.fwi, int i64 o.fke, int i64 o.fqu, .slice o.fa o.fn o.fcap]] w4 fun e w' => e = .returned (.bool true) /\ R w') :
  Calls Tryz.prog 21 #[.pointer (some ⟨wb, 0, none⟩), .agg #[int i64 4, int i64 o.on, int i64 o.a, int i64 o.b, int i64 o.c, .int .i32 o.v, int i64 o.te, int i64 o.tn, int i64 o.fs, int i64 o.fle, int i64 o.fla, int i64 o.fwi, int i64 o.fke, int i64 o.fqu, .slice o.fa o.fn o.fcap]] w fun e w' => e = .returned (.bool true) /\ R w' := by
 obtain ⟨pa, pcap, rfl⟩ := zah hps
 have hil : i < ps.length := (List.getElem?_eq_some_iff.1 hpi).1
 obtain ⟨gb, gcap, hgv, _, hgl⟩ := hps.form (by omega)
 cases hgv
 have hwl := zaa hw
 have hb0 : Below w.heap.size w (w.alloc (.cells #[int i64 4, int i64 o.on, int i64 o.a, int i64 o.b, int i64 o.c, .int .i32 o.v, int i64 o.te, int i64 o.tn, int i64 o.fs, int i64 o.fle, int i64 o.fla, int i64 o.fwi, int i64 o.fke, int i64 o.fqu, .slice o.fa o.fn o.fcap] 68)) := (Below.refl _ _).alloc (Nat.le_refl _) _
 have hl0 := zap w (.cells #[int i64 4, int i64 o.on, int i64 o.a, int i64 o.b, int i64 o.c, .int .i32 o.v, int i64 o.te, int i64 o.tn, int i64 o.fs, int i64 o.fle, int i64 o.fla, int i64 o.fwi, int i64 o.fke, int i64 o.fqu, .slice o.fa o.fn o.fcap] 68)
 have hsz : (w.alloc (.cells #[int i64 4, int i64 o.on, int i64 o.a, int i64 o.b, int i64 o.c, .int .i32 o.v, int i64 o.te, int i64 o.tn, int i64 o.fs, int i64 o.fle, int i64 o.fla, int i64 o.fwi, int i64 o.fke, int i64 o.fqu, .slice o.fa o.fn o.fcap] 68)).heap.size = w.heap.size + 1 := zbd w _
 have hwX := (hb0.block wb hwl).trans hw
 have hc0 := ptr_at hps hpi
 have hcX := ((hb0.cell (p := ⟨gb, i, none⟩) hgl)).trans hc0
 have hgX := ((hb0.cell (p := ⟨po, 14, none⟩) hpo)).trans hgo
 have hin : (i : Int) < (ps.length : Int) := by omega
 have hne1 : ¬ (ps.length : Int) = 0 := by omega
 have HB := zab hb0
 have HPK := fun W => zab (hpk W)
 have z0 : (w.alloc (.cells #[int i64 4, int i64 o.on, int i64 o.a, int i64 o.b, int i64 o.c, .int .i32 o.v, int i64 o.te, int i64 o.tn, int i64 o.fs, int i64 o.fle, int i64 o.fla, int i64 o.fwi, int i64 o.fke, int i64 o.fqu, .slice o.fa o.fn o.fcap] 68)).cell? ⟨wb, 0, none⟩ = some (.slice (some ⟨gb, 0, none⟩) ps.length pcap) := by rw [zac hwX]; rfl
 have y0 : (w.alloc (.cells #[int i64 4, int i64 o.on, int i64 o.a, int i64 o.b, int i64 o.c, .int .i32 o.v, int i64 o.te, int i64 o.tn, int i64 o.fs, int i64 o.fle, int i64 o.fla, int i64 o.fwi, int i64 o.fke, int i64 o.fqu, .slice o.fa o.fn o.fcap] 68)).cell? ⟨w.heap.size, 0, none⟩ = some (int i64 4) := by rw [zac hl0]; rfl
 have y1 : (w.alloc (.cells #[int i64 4, int i64 o.on, int i64 o.a, int i64 o.b, int i64 o.c, .int .i32 o.v, int i64 o.te, int i64 o.tn, int i64 o.fs, int i64 o.fle, int i64 o.fla, int i64 o.fwi, int i64 o.fke, int i64 o.fqu, .slice o.fa o.fn o.fcap] 68)).cell? ⟨w.heap.size, 1, none⟩ = some (int i64 o.on) := by rw [zac hl0]; rfl
 have HL := zab hl0
 have HWX : Hid ((w.alloc (.cells #[int i64 4, int i64 o.on, int i64 o.a, int i64 o.b, int i64 o.c, .int .i32 o.v, int i64 o.te, int i64 o.tn, int i64 o.fs, int i64 o.fle, int i64 o.fla, int i64 o.fwi, int i64 o.fke, int i64 o.fqu, .slice o.fa o.fn o.fcap] 68)).heap.size = w.heap.size + 1) := hsz
 have HAA := zab HA
 clear HA
 clear hps hl0 hb0 hsz hw hwX hpk hgo hc0 hpi hil
 go_enter Tryz.func21, Tryz.ntmps21
 go_wp2_with fail
 have q1 : wb < w.heap.size + 1 := by omega
 have q2 : gb < w.heap.size + 1 := by omega
 have q3 : po < w.heap.size + 1 := by omega
 have q4 : w.heap.size < w.heap.size + 1 := by omega
 clear hwl hgl hpo
 generalize (w.alloc (.cells #[int i64 4, int i64 o.on, int i64 o.a, int i64 o.b, int i64 o.c, .int .i32 o.v, int i64 o.te, int i64 o.tn, int i64 o.fs, int i64 o.fle, int i64 o.fla, int i64 o.fwi, int i64 o.fke, int i64 o.fqu, .slice o.fa o.fn o.fcap] 68)) = X at *
 generalize w.heap.size + 1 = N at *
 have hne : Nonempty (zaf N X) := zaf.some _ _
 have hlc := fun (u : zaf N X) b o h => u.cell b o h
 refine zad N (by kernel_rfl) (by kernel_rfl) ?_
 repeat (go_big_quiet_step (first | (go_at_call 54; exact Calls.later_same (ud (HPK _)))))
 refine wpQuiet_nil ?_
 rintro ⟨w1, hb1⟩
 clear hlc hne
 have hgb := (hb1.cell (p := ⟨po, 14, none⟩) q3).trans hgX
 have hX1 := (hb1.block w.heap.size q4).trans (ud HL)
 have hbw : Below w.heap.size w w1 := (ud HB).trans (hb1.mono (Nat.le_of_lt q4))
 have a0 : w1.cell? ⟨w.heap.size, 0, none⟩ = some (int i64 4) := by rw [zac hX1]; rfl
 have a1 : w1.cell? ⟨w.heap.size, 1, none⟩ = some (int i64 o.on) := by rw [zac hX1]; rfl
 have a2 : w1.cell? ⟨w.heap.size, 2, none⟩ = some (int i64 o.a) := by rw [zac hX1]; rfl
 have a3 : w1.cell? ⟨w.heap.size, 3, none⟩ = some (int i64 o.b) := by rw [zac hX1]; rfl
 have a4 : w1.cell? ⟨w.heap.size, 4, none⟩ = some (int i64 o.c) := by rw [zac hX1]; rfl
 have a5 : w1.cell? ⟨w.heap.size, 5, none⟩ = some (.int .i32 o.v) := by rw [zac hX1]; rfl
 have a6 : w1.cell? ⟨w.heap.size, 6, none⟩ = some (int i64 o.te) := by rw [zac hX1]; rfl
 have a7 : w1.cell? ⟨w.heap.size, 7, none⟩ = some (int i64 o.tn) := by rw [zac hX1]; rfl
 have a8 : w1.cell? ⟨w.heap.size, 8, none⟩ = some (int i64 o.fs) := by rw [zac hX1]; rfl
 have a9 : w1.cell? ⟨w.heap.size, 9, none⟩ = some (int i64 o.fle) := by rw [zac hX1]; rfl
 have a10 : w1.cell? ⟨w.heap.size, 10, none⟩ = some (int i64 o.fla) := by rw [zac hX1]; rfl
 have a11 : w1.cell? ⟨w.heap.size, 11, none⟩ = some (int i64 o.fwi) := by rw [zac hX1]; rfl
 have a12 : w1.cell? ⟨w.heap.size, 12, none⟩ = some (int i64 o.fke) := by rw [zac hX1]; rfl
 have a13 : w1.cell? ⟨w.heap.size, 13, none⟩ = some (int i64 o.fqu) := by rw [zac hX1]; rfl
 have a14 : w1.cell? ⟨w.heap.size, 14, none⟩ = some (.slice o.fa o.fn o.fcap) := by rw [zac hX1]; rfl
 have HAW := zab (ud HAA w1 hbw)
 dsimp only
 clear HAA hX1 hgX hcX y0 y1 z0 hb1 hbw q1 q2 q3 q4
 go_wp2_with (first | (go_at_call 56; refine (ud HAW).mono ?_; rintro e w' ⟨rfl, hR⟩) | fail)
 go_ret
 exact ⟨rfl, hR⟩
set_option maxRecDepth 8000 in
set_option maxHeartbeats 2000000 in
theorem stp_5 {B : Nat} {w : World} {wb : Nat} {pv lv : Value} {ps : List Nat} (hw : w.heap[wb]? = some (.cells #[pv, lv] 63 (0, 0))) (hps : w.ownsRow B 103 1 pv ps.length (ps.map (fun q => .pointer (some ⟨q, 0, none⟩)))) {i po : Nat} (hpi : ps[i]? = some po) (hpo : po < w.heap.size) (hgo : w.cell? ⟨po, 14, none⟩ = some (.bool false)) (o : Ops) (hpk : ∀ w : World, Calls Tryz.prog 54 #[int i64 o.on, int i64 ps.length] w fun e w' => e = .returned (int i64 i) /\ w' = w) (R : World -> Prop)
  (HA : ∀ w4, Below w.heap.size w w4 -> Calls Tryz.prog 56 #[.pointer (some ⟨wb, 0, none⟩), .pointer (some ⟨po, 0, none⟩), .agg #[int i64 5, int i64 o.on, int i64 o.a, int i64 o.b, int i64 o.c, .int .i32 o.v, int i64 o.te, int i64 o.tn, int i64 o.fs, int i64 o.fle, int i64 o.fla, int i64 o.fwi, int i64 o.fke, int i64 o.fqu, .slice o.fa o.fn o.fcap]] w4 fun e w' => e = .returned (.bool true) /\ R w') :
  Calls Tryz.prog 21 #[.pointer (some ⟨wb, 0, none⟩), .agg #[int i64 5, int i64 o.on, int i64 o.a, int i64 o.b, int i64 o.c, .int .i32 o.v, int i64 o.te, int i64 o.tn, int i64 o.fs, int i64 o.fle, int i64 o.fla, int i64 o.fwi, int i64 o.fke, int i64 o.fqu, .slice o.fa o.fn o.fcap]] w fun e w' => e = .returned (.bool true) /\ R w' := by
 obtain ⟨pa, pcap, rfl⟩ := zah hps
 have hil : i < ps.length := (List.getElem?_eq_some_iff.1 hpi).1
 obtain ⟨gb, gcap, hgv, _, hgl⟩ := hps.form (by omega)
 cases hgv
 have hwl := zaa hw
 have hb0 : Below w.heap.size w (w.alloc (.cells #[int i64 5, int i64 o.on, int i64 o.a, int i64 o.b, int i64 o.c, .int .i32 o.v, int i64 o.te, int i64 o.tn, int i64 o.fs, int i64 o.fle, int i64 o.fla, int i64 o.fwi, int i64 o.fke, int i64 o.fqu, .slice o.fa o.fn o.fcap] 68)) := (Below.refl _ _).alloc (Nat.le_refl _) _
 have hl0 := zap w (.cells #[int i64 5, int i64 o.on, int i64 o.a, int i64 o.b, int i64 o.c, .int .i32 o.v, int i64 o.te, int i64 o.tn, int i64 o.fs, int i64 o.fle, int i64 o.fla, int i64 o.fwi, int i64 o.fke, int i64 o.fqu, .slice o.fa o.fn o.fcap] 68)
 have hsz : (w.alloc (.cells #[int i64 5, int i64 o.on, int i64 o.a, int i64 o.b, int i64 o.c, .int .i32 o.v, int i64 o.te, int i64 o.tn, int i64 o.fs, int i64 o.fle, int i64 o.fla, int i64 o.fwi, int i64 o.fke, int i64 o.fqu, .slice o.fa o.fn o.fcap] 68)).heap.size = w.heap.size + 1 := zbd w _
 have hwX := (hb0.block wb hwl).trans hw
 have hc0 := ptr_at hps hpi
 have hcX := ((hb0.cell (p := ⟨gb, i, none⟩) hgl)).trans hc0
 have hgX := ((hb0.cell (p := ⟨po, 14, none⟩) hpo)).trans hgo
 have hin : (i : Int) < (ps.length : Int) := by omega
 have hne1 : ¬ (ps.length : Int) = 0 := by omega
 have HB := zab hb0
 have HPK := fun W => zab (hpk W)
 have z0 : (w.alloc (.cells #[int i64 5, int i64 o.on, int i64 o.a, int i64 o.b, int i64 o.c, .int .i32 o.v, int i64 o.te, int i64 o.tn, int i64 o.fs, int i64 o.fle, int i64 o.fla, int i64 o.fwi, int i64 o.fke, int i64 o.fqu, .slice o.fa o.fn o.fcap] 68)).cell? ⟨wb, 0, none⟩ = some (.slice (some ⟨gb, 0, none⟩) ps.length pcap) := by rw [zac hwX]; rfl
 have y0 : (w.alloc (.cells #[int i64 5, int i64 o.on, int i64 o.a, int i64 o.b, int i64 o.c, .int .i32 o.v, int i64 o.te, int i64 o.tn, int i64 o.fs, int i64 o.fle, int i64 o.fla, int i64 o.fwi, int i64 o.fke, int i64 o.fqu, .slice o.fa o.fn o.fcap] 68)).cell? ⟨w.heap.size, 0, none⟩ = some (int i64 5) := by rw [zac hl0]; rfl
 have y1 : (w.alloc (.cells #[int i64 5, int i64 o.on, int i64 o.a, int i64 o.b, int i64 o.c, .int .i32 o.v, int i64 o.te, int i64 o.tn, int i64 o.fs, int i64 o.fle, int i64 o.fla, int i64 o.fwi, int i64 o.fke, int i64 o.fqu, .slice o.fa o.fn o.fcap] 68)).cell? ⟨w.heap.size, 1, none⟩ = some (int i64 o.on) := by rw [zac hl0]; rfl
 have HL := zab hl0
 have HWX : Hid ((w.alloc (.cells #[int i64 5, int i64 o.on, int i64 o.a, int i64 o.b, int i64 o.c, .int .i32 o.v, int i64 o.te, int i64 o.tn, int i64 o.fs, int i64 o.fle, int i64 o.fla, int i64 o.fwi, int i64 o.fke, int i64 o.fqu, .slice o.fa o.fn o.fcap] 68)).heap.size = w.heap.size + 1) := hsz
 have HAA := zab HA
 clear HA
 clear hps hl0 hb0 hsz hw hwX hpk hgo hc0 hpi hil
 go_enter Tryz.func21, Tryz.ntmps21
 go_wp2_with fail
 have q1 : wb < w.heap.size + 1 := by omega
 have q2 : gb < w.heap.size + 1 := by omega
 have q3 : po < w.heap.size + 1 := by omega
 have q4 : w.heap.size < w.heap.size + 1 := by omega
 clear hwl hgl hpo
 generalize (w.alloc (.cells #[int i64 5, int i64 o.on, int i64 o.a, int i64 o.b, int i64 o.c, .int .i32 o.v, int i64 o.te, int i64 o.tn, int i64 o.fs, int i64 o.fle, int i64 o.fla, int i64 o.fwi, int i64 o.fke, int i64 o.fqu, .slice o.fa o.fn o.fcap] 68)) = X at *
 generalize w.heap.size + 1 = N at *
 have hne : Nonempty (zaf N X) := zaf.some _ _
 have hlc := fun (u : zaf N X) b o h => u.cell b o h
 refine zad N (by kernel_rfl) (by kernel_rfl) ?_
 repeat (go_big_quiet_step (first | (go_at_call 54; exact Calls.later_same (ud (HPK _)))))
 refine wpQuiet_nil ?_
 rintro ⟨w1, hb1⟩
 clear hlc hne
 have hgb := (hb1.cell (p := ⟨po, 14, none⟩) q3).trans hgX
 have hX1 := (hb1.block w.heap.size q4).trans (ud HL)
 have hbw : Below w.heap.size w w1 := (ud HB).trans (hb1.mono (Nat.le_of_lt q4))
 have a0 : w1.cell? ⟨w.heap.size, 0, none⟩ = some (int i64 5) := by rw [zac hX1]; rfl
 have a1 : w1.cell? ⟨w.heap.size, 1, none⟩ = some (int i64 o.on) := by rw [zac hX1]; rfl
 have a2 : w1.cell? ⟨w.heap.size, 2, none⟩ = some (int i64 o.a) := by rw [zac hX1]; rfl
 have a3 : w1.cell? ⟨w.heap.size, 3, none⟩ = some (int i64 o.b) := by rw [zac hX1]; rfl
 have a4 : w1.cell? ⟨w.heap.size, 4, none⟩ = some (int i64 o.c) := by rw [zac hX1]; rfl
 have a5 : w1.cell? ⟨w.heap.size, 5, none⟩ = some (.int .i32 o.v) := by rw [zac hX1]; rfl
 have a6 : w1.cell? ⟨w.heap.size, 6, none⟩ = some (int i64 o.te) := by rw [zac hX1]; rfl
 have a7 : w1.cell? ⟨w.heap.size, 7, none⟩ = some (int i64 o.tn) := by rw [zac hX1]; rfl
 have a8 : w1.cell? ⟨w.heap.size, 8, none⟩ = some (int i64 o.fs) := by rw [zac hX1]; rfl
 have a9 : w1.cell? ⟨w.heap.size, 9, none⟩ = some (int i64 o.fle) := by rw [zac hX1]; rfl
 have a10 : w1.cell? ⟨w.heap.size, 10, none⟩ = some (int i64 o.fla) := by rw [zac hX1]; rfl
 have a11 : w1.cell? ⟨w.heap.size, 11, none⟩ = some (int i64 o.fwi) := by rw [zac hX1]; rfl
 have a12 : w1.cell? ⟨w.heap.size, 12, none⟩ = some (int i64 o.fke) := by rw [zac hX1]; rfl
 have a13 : w1.cell? ⟨w.heap.size, 13, none⟩ = some (int i64 o.fqu) := by rw [zac hX1]; rfl
 have a14 : w1.cell? ⟨w.heap.size, 14, none⟩ = some (.slice o.fa o.fn o.fcap) := by rw [zac hX1]; rfl
 have HAW := zab (ud HAA w1 hbw)
 dsimp only
 clear HAA hX1 hgX hcX y0 y1 z0 hb1 hbw q1 q2 q3 q4
 go_wp2_with (first | (go_at_call 56; refine (ud HAW).mono ?_; rintro e w' ⟨rfl, hR⟩) | fail)
 go_ret
 exact ⟨rfl, hR⟩
set_option maxRecDepth 8000 in
set_option maxHeartbeats 2000000 in
theorem stp_other {B : Nat} {w : World} {wb : Nat} {pv lv : Value} {ps : List Nat} (hw : w.heap[wb]? = some (.cells #[pv, lv] 63 (0, 0))) (hps : w.ownsRow B 103 1 pv ps.length (ps.map (fun q => .pointer (some ⟨q, 0, none⟩)))) {i po : Nat} (hpi : ps[i]? = some po) (hpo : po < w.heap.size) (hgo : w.cell? ⟨po, 14, none⟩ = some (.bool false)) (o : Ops) (hpk : ∀ w : World, Calls Tryz.prog 54 #[int i64 o.on, int i64 ps.length] w fun e w' => e = .returned (int i64 i) /\ w' = w) (kk : Int) (hkk : kk <= 0) :
  Calls Tryz.prog 21 #[.pointer (some ⟨wb, 0, none⟩), .agg #[int i64 kk, int i64 o.on, int i64 o.a, int i64 o.b, int i64 o.c, .int .i32 o.v, int i64 o.te, int i64 o.tn, int i64 o.fs, int i64 o.fle, int i64 o.fla, int i64 o.fwi, int i64 o.fke, int i64 o.fqu, .slice o.fa o.fn o.fcap]] w fun e w' => e = .returned (.bool true) /\ Below w.heap.size w w' := by
 obtain ⟨pa, pcap, rfl⟩ := zah hps
 have hil : i < ps.length := (List.getElem?_eq_some_iff.1 hpi).1
 obtain ⟨gb, gcap, hgv, _, hgl⟩ := hps.form (by omega)
 cases hgv
 have hwl := zaa hw
 have hb0 : Below w.heap.size w (w.alloc (.cells #[int i64 kk, int i64 o.on, int i64 o.a, int i64 o.b, int i64 o.c, .int .i32 o.v, int i64 o.te, int i64 o.tn, int i64 o.fs, int i64 o.fle, int i64 o.fla, int i64 o.fwi, int i64 o.fke, int i64 o.fqu, .slice o.fa o.fn o.fcap] 68)) := (Below.refl _ _).alloc (Nat.le_refl _) _
 have hl0 := zap w (.cells #[int i64 kk, int i64 o.on, int i64 o.a, int i64 o.b, int i64 o.c, .int .i32 o.v, int i64 o.te, int i64 o.tn, int i64 o.fs, int i64 o.fle, int i64 o.fla, int i64 o.fwi, int i64 o.fke, int i64 o.fqu, .slice o.fa o.fn o.fcap] 68)
 have hsz : (w.alloc (.cells #[int i64 kk, int i64 o.on, int i64 o.a, int i64 o.b, int i64 o.c, .int .i32 o.v, int i64 o.te, int i64 o.tn, int i64 o.fs, int i64 o.fle, int i64 o.fla, int i64 o.fwi, int i64 o.fke, int i64 o.fqu, .slice o.fa o.fn o.fcap] 68)).heap.size = w.heap.size + 1 := zbd w _
 have hwX := (hb0.block wb hwl).trans hw
 have hc0 := ptr_at hps hpi
 have hcX := ((hb0.cell (p := ⟨gb, i, none⟩) hgl)).trans hc0
 have hgX := ((hb0.cell (p := ⟨po, 14, none⟩) hpo)).trans hgo
 have hin : (i : Int) < (ps.length : Int) := by omega
 have hne1 : ¬ (ps.length : Int) = 0 := by omega
 have HB := zab hb0
 have HPK := fun W => zab (hpk W)
 have z0 : (w.alloc (.cells #[int i64 kk, int i64 o.on, int i64 o.a, int i64 o.b, int i64 o.c, .int .i32 o.v, int i64 o.te, int i64 o.tn, int i64 o.fs, int i64 o.fle, int i64 o.fla, int i64 o.fwi, int i64 o.fke, int i64 o.fqu, .slice o.fa o.fn o.fcap] 68)).cell? ⟨wb, 0, none⟩ = some (.slice (some ⟨gb, 0, none⟩) ps.length pcap) := by rw [zac hwX]; rfl
 have y0 : (w.alloc (.cells #[int i64 kk, int i64 o.on, int i64 o.a, int i64 o.b, int i64 o.c, .int .i32 o.v, int i64 o.te, int i64 o.tn, int i64 o.fs, int i64 o.fle, int i64 o.fla, int i64 o.fwi, int i64 o.fke, int i64 o.fqu, .slice o.fa o.fn o.fcap] 68)).cell? ⟨w.heap.size, 0, none⟩ = some (int i64 kk) := by rw [zac hl0]; rfl
 have y1 : (w.alloc (.cells #[int i64 kk, int i64 o.on, int i64 o.a, int i64 o.b, int i64 o.c, .int .i32 o.v, int i64 o.te, int i64 o.tn, int i64 o.fs, int i64 o.fle, int i64 o.fla, int i64 o.fwi, int i64 o.fke, int i64 o.fqu, .slice o.fa o.fn o.fcap] 68)).cell? ⟨w.heap.size, 1, none⟩ = some (int i64 o.on) := by rw [zac hl0]; rfl
 have HL := zab hl0
 have HWX : Hid ((w.alloc (.cells #[int i64 kk, int i64 o.on, int i64 o.a, int i64 o.b, int i64 o.c, .int .i32 o.v, int i64 o.te, int i64 o.tn, int i64 o.fs, int i64 o.fle, int i64 o.fla, int i64 o.fwi, int i64 o.fke, int i64 o.fqu, .slice o.fa o.fn o.fcap] 68)).heap.size = w.heap.size + 1) := hsz
 have k1 : ¬ kk = 1 := by omega
 have k13 : ¬ kk = 13 := by omega
 clear hps hl0 hb0 hsz hw hwX hpk hgo hc0 hpi hil
 go_enter Tryz.func21, Tryz.ntmps21
 go_wp2_with fail
 have q1 : wb < w.heap.size + 1 := by omega
 have q2 : gb < w.heap.size + 1 := by omega
 have q3 : po < w.heap.size + 1 := by omega
 have q4 : w.heap.size < w.heap.size + 1 := by omega
 clear hwl hgl hpo
 generalize (w.alloc (.cells #[int i64 kk, int i64 o.on, int i64 o.a, int i64 o.b, int i64 o.c, .int .i32 o.v, int i64 o.te, int i64 o.tn, int i64 o.fs, int i64 o.fle, int i64 o.fla, int i64 o.fwi, int i64 o.fke, int i64 o.fqu, .slice o.fa o.fn o.fcap] 68)) = X at *
 generalize w.heap.size + 1 = N at *
 have hne : Nonempty (zaf N X) := zaf.some _ _
 have hlc := fun (u : zaf N X) b o h => u.cell b o h
 refine zad N (by kernel_rfl) (by kernel_rfl) ?_
 repeat (go_big_quiet_step (first | (go_at_call 54; exact Calls.later_same (ud (HPK _)))))
 refine wpQuiet_nil ?_
 rintro ⟨w1, hb1⟩
 clear hlc hne
 have hgb := (hb1.cell (p := ⟨po, 14, none⟩) q3).trans hgX
 have hX1 := (hb1.block w.heap.size q4).trans (ud HL)
 have hbw : Below w.heap.size w w1 := (ud HB).trans (hb1.mono (Nat.le_of_lt q4))
 have a0 : w1.cell? ⟨w.heap.size, 0, none⟩ = some (int i64 kk) := by rw [zac hX1]; rfl
 have k2 : ¬ kk = 2 := by omega
 have k3 : ¬ kk = 3 := by omega
 have k4 : ¬ kk = 4 := by omega
 have k5 : ¬ kk = 5 := by omega
 have k6 : ¬ kk = 6 := by omega
 have k7 : ¬ kk = 7 := by omega
 have k8 : ¬ kk = 8 := by omega
 have k9 : ¬ kk = 9 := by omega
 have k10 : ¬ kk = 10 := by omega
 have k11 : ¬ kk = 11 := by omega
 have k12 : ¬ kk = 12 := by omega
 dsimp only
 clear hX1 hgX hcX y0 y1 z0 hb1 q1 q2 q3 q4 hkk
 go_wp2_with fail
 go_ret
 exact ⟨rfl, hbw⟩
end Go.Proofs.YtpbimdkclnekeaaGreat

namespace Go.Proofs.YtpbimdkclnekeaaGreat
open Value (int)
open IntKind (i64)
open Go.RowKit Go.ChangeShapes Go.WideShapes
set_option linter.unusedVariables false
theorem Tryz.cellsOp : Tryz.prog.cellsOf 68 = 15 := by kernel_rfl
theorem Tryz.cellsInt32 : Tryz.prog.cellsOf 21 = 1 := by kernel_rfl
theorem Tryz.cellsToken : Tryz.prog.cellsOf 49 = 2 := by kernel_rfl
theorem Tryz.bytesOp : Tryz.prog.bytesOf 68 = 136 := by kernel_rfl
theorem wt_all {H : Type} {P : Program} {e : TypeId} : ∀ {l : List (DataW H)} {d : DataW H}, d ∈ l -> ∀ y ∈ d.weights P e, y ∈ DataW.weightsAll P e l
 | [], d, h => by cases h
 | x :: r, d, h => fun y hy => by
  simp only [DataW.weightsAll, List.mem_append]
  rcases List.mem_cons.1 h with rfl | h
  ·exact .inl hy
  ·exact .inr (wt_all h y hy)
theorem wf_i64 {k : Int} (h : (Lit.int .i64 k).wf = true) : -9223372036854775808 <= k /\ k <= 9223372036854775807 := by
 have e1 : IntKind.min .i64 = -9223372036854775808 := by decide
 have e2 : IntKind.max .i64 = 9223372036854775807 := by decide
 simp [Lit.wf] at h; omega
theorem wf_i32 {k : Int} (h : (Lit.int .i32 k).wf = true) : -2147483648 <= k /\ k <= 2147483647 := by
 have e1 : IntKind.min .i32 = -2147483648 := by decide
 have e2 : IntKind.max .i32 = 2147483647 := by decide
 simp [Lit.wf] at h; omega
instance : Inhabited Ops := ⟨⟨0, 0, 0, 0, 0, 0, 0, 0, 0, 0, 0, 0, 0, 0, none, 0, 0⟩⟩
section
variable {H : Type} {enc : TypeId × Value -> H} {w : World} {held : Bool}
set_option maxRecDepth 20000 in
theorem open_token {fuel : Nat} {cs : List Value} {x : DataW H × List MemPlace} (h : DataW.trod enc Tryz.prog w 0 (fun _ => true) held fuel 49 cs = some x) : ∃ e n : Int, cs = [int i64 e, int i64 n] /\ (-9223372036854775808 <= e /\ e <= 9223372036854775807) /\ (-9223372036854775808 <= n /\ n <= 9223372036854775807) := by
 obtain ⟨xs, m, _, rfl, hl, hlen, hf⟩ := DataW.trod_struct Tryz.underlying49 h
 rw [Tryz.cellsToken] at hl
 match cs, hl with
 | [c0, c1], _ =>
  match xs, hlen with
  | [y0, y1], _ =>
   have q0 : DataW.trod enc Tryz.prog w 0 (fun _ => true) held m 3 [c0] = some y0 := by have h : DataW.trod enc Tryz.prog w 0 (fun _ => true) held m 3 (([c0, c1].drop 0).take (Tryz.prog.cellsOf 3)) = some y0 := hf 0 _ rfl; rw [Tryz.cellsInt] at h; exact h
   have q1 : DataW.trod enc Tryz.prog w 0 (fun _ => true) held m 3 [c1] = some y1 := by have h : DataW.trod enc Tryz.prog w 0 (fun _ => true) held m 3 (([c0, c1].drop 1).take (Tryz.prog.cellsOf 3)) = some y1 := hf 1 _ rfl; rw [Tryz.cellsInt] at h; exact h
   obtain ⟨a0, e0, _, w0⟩ := DataW.trod_int Tryz.underlying3 q0
   obtain ⟨a1, e1, _, w1⟩ := DataW.trod_int Tryz.underlying3 q1
   simp at e0 e1
   exact ⟨a0, a1, by rw [e0, e1], wf_i64 w0, wf_i64 w1⟩
set_option maxRecDepth 20000 in
theorem open_op {fuel : Nat} {cs : List Value} {x : DataW H × List MemPlace} (h : DataW.trod enc Tryz.prog w 0 (fun _ => true) held fuel 68 cs = some x) :
  ∃ (o : Ops) (T : (Nat -> Int) × (Nat -> Int) × (Nat -> Int)), cs = [int i64 o.kd, int i64 o.on, int i64 o.a, int i64 o.b, int i64 o.c, .int .i32 o.v, int i64 o.te, int i64 o.tn, int i64 o.fs, int i64 o.fle, int i64 o.fla, int i64 o.fwi, int i64 o.fke, int i64 o.fqu, .slice o.fa o.fn o.fcap] /\ TS w o.fa o.fn T.1 T.2.1 T.2.2 /\ ((∀ y ∈ x.1.weights Tryz.prog 68, y <= reachBytes) -> o.fits) := by
 obtain ⟨xs, m, _, rfl, hl, hlen, hf⟩ := DataW.trod_struct Tryz.underlying68 h
 rw [Tryz.cellsOp] at hl
 match cs, hl with
 | [c0, c1, c2, c3, c4, c5, c6, c7, c8, c9, c10, c11, c12, c13, c14], _ =>
  match xs, hlen with
  | [y0, y1, y2, y3, y4, y5, y6, y7], _ =>
   have q0 : DataW.trod enc Tryz.prog w 0 (fun _ => true) held m 3 [c0] = some y0 := by have h : DataW.trod enc Tryz.prog w 0 (fun _ => true) held m 3 (([c0, c1, c2, c3, c4, c5, c6, c7, c8, c9, c10, c11, c12, c13, c14].drop 0).take (Tryz.prog.cellsOf 3)) = some y0 := hf 0 _ rfl; rw [Tryz.cellsInt] at h; exact h
   have q1 : DataW.trod enc Tryz.prog w 0 (fun _ => true) held m 3 [c1] = some y1 := by have h : DataW.trod enc Tryz.prog w 0 (fun _ => true) held m 3 (([c0, c1, c2, c3, c4, c5, c6, c7, c8, c9, c10, c11, c12, c13, c14].drop 1).take (Tryz.prog.cellsOf 3)) = some y1 := hf 1 _ rfl; rw [Tryz.cellsInt] at h; exact h
   have q2 : DataW.trod enc Tryz.prog w 0 (fun _ => true) held m 3 [c2] = some y2 := by have h : DataW.trod enc Tryz.prog w 0 (fun _ => true) held m 3 (([c0, c1, c2, c3, c4, c5, c6, c7, c8, c9, c10, c11, c12, c13, c14].drop 2).take (Tryz.prog.cellsOf 3)) = some y2 := hf 2 _ rfl; rw [Tryz.cellsInt] at h; exact h
   have q3 : DataW.trod enc Tryz.prog w 0 (fun _ => true) held m 3 [c3] = some y3 := by have h : DataW.trod enc Tryz.prog w 0 (fun _ => true) held m 3 (([c0, c1, c2, c3, c4, c5, c6, c7, c8, c9, c10, c11, c12, c13, c14].drop 3).take (Tryz.prog.cellsOf 3)) = some y3 := hf 3 _ rfl; rw [Tryz.cellsInt] at h; exact h
   have q4 : DataW.trod enc Tryz.prog w 0 (fun _ => true) held m 3 [c4] = some y4 := by have h : DataW.trod enc Tryz.prog w 0 (fun _ => true) held m 3 (([c0, c1, c2, c3, c4, c5, c6, c7, c8, c9, c10, c11, c12, c13, c14].drop 4).take (Tryz.prog.cellsOf 3)) = some y4 := hf 4 _ rfl; rw [Tryz.cellsInt] at h; exact h
   have q5 : DataW.trod enc Tryz.prog w 0 (fun _ => true) held m 21 [c5] = some y5 := by have h : DataW.trod enc Tryz.prog w 0 (fun _ => true) held m 21 (([c0, c1, c2, c3, c4, c5, c6, c7, c8, c9, c10, c11, c12, c13, c14].drop 5).take (Tryz.prog.cellsOf 21)) = some y5 := hf 5 _ rfl; rw [Tryz.cellsInt32] at h; exact h
   have q6 : DataW.trod enc Tryz.prog w 0 (fun _ => true) held m 49 [c6, c7] = some y6 := by have h : DataW.trod enc Tryz.prog w 0 (fun _ => true) held m 49 (([c0, c1, c2, c3, c4, c5, c6, c7, c8, c9, c10, c11, c12, c13, c14].drop 6).take (Tryz.prog.cellsOf 49)) = some y6 := hf 6 _ rfl; rw [Tryz.cellsToken] at h; exact h
   have q7 : DataW.trod enc Tryz.prog w 0 (fun _ => true) held m 27 [c8, c9, c10, c11, c12, c13, c14] = some y7 := by have h : DataW.trod enc Tryz.prog w 0 (fun _ => true) held m 27 (([c0, c1, c2, c3, c4, c5, c6, c7, c8, c9, c10, c11, c12, c13, c14].drop 8).take (Tryz.prog.cellsOf 27)) = some y7 := hf 7 _ rfl; rw [Tryz.cellsConfig] at h; exact h
   obtain ⟨a0, e0, _, w0⟩ := DataW.trod_int Tryz.underlying3 q0
   obtain ⟨a1, e1, _, w1⟩ := DataW.trod_int Tryz.underlying3 q1
   obtain ⟨a2, e2, _, w2⟩ := DataW.trod_int Tryz.underlying3 q2
   obtain ⟨a3, e3, _, w3⟩ := DataW.trod_int Tryz.underlying3 q3
   obtain ⟨a4, e4, _, w4⟩ := DataW.trod_int Tryz.underlying3 q4
   obtain ⟨a5, e5, _, w5⟩ := DataW.trod_int Tryz.underlying21 q5
   obtain ⟨t0, t1, e6, g0, g1⟩ := open_token q6
   obtain ⟨s, le, la, wi, ke, qu, a, n, cap, Fr, Wd, K, e7, hts, hnc, hwt⟩ := open_config q7
   simp at e0 e1 e2 e3 e4 e5 e6 e7
   obtain ⟨e60, e61⟩ := e6
   obtain ⟨e70, e71, e72, e73, e74, e75, e76⟩ := e7
   refine ⟨⟨a0, a1, a2, a3, a4, a5, t0, t1, s, le, la, wi, ke, qu, a, n, cap⟩, (Fr, Wd, K), by rw [e0, e1, e2, e3, e4, e5, e60, e61, e70, e71, e72, e73, e74, e75, e76], hts, fun hw => ⟨wf_i64 w1, wf_i64 w2, wf_i32 w5, g0, g1, ?_⟩⟩
   have hh := hwt (fun y hy => hw y (by
    simp only [DataW.weights, Tryz.underlying68]
    exact DataW.weights_mem_each (j := 7) rfl rfl y hy))
   simp only [reachBytes] at hh
   show 24 * (n + 1) <= 281474976710656
   omega
theorem open_ops {fuel : Nat} {cs : List Value} {x : DataW H × List MemPlace} (h : DataW.trod enc Tryz.prog w 0 (fun _ => true) held fuel 22 cs = some x) (hw : ∀ y ∈ x.1.weights Tryz.prog 22, y <= reachBytes) :
  ∃ (a : Option Addr) (n cap : Nat) (G : Nat -> Ops) (T : Nat -> (Nat -> Int) × (Nat -> Int) × (Nat -> Int)), cs = [.slice a n cap] /\ OS w a n G /\ n <= 1099511627776 /\ (∀ i, i < n -> TS w (G i).fa (G i).fn (T i).1 (T i).2.1 (T i).2.2) /\ ∀ i, i < n -> (G i).fits := by
 rcases Go.Deep.open_slice Tryz.underlying22 h with ⟨rfl, rfl⟩ | ⟨a, len, cap, m, n, D, Pl, rfl, hb, hl, hm, hmm, rfl, hx⟩
 ·exact ⟨none, 0, 0, fun _ => ⟨0, 0, 0, 0, 0, 0, 0, 0, 0, 0, 0, 0, 0, 0, none, 0, 0⟩, fun _ => (fun _ => 0, fun _ => 0, fun _ => 0), rfl, fun h0 => absurd h0 (Nat.lt_irrefl _), Nat.zero_le _, fun i hi => absurd hi (Nat.not_lt_zero _), fun i hi => absurd hi (Nat.not_lt_zero _)⟩
 ·rw [Tryz.cellsOp] at hx
  obtain ⟨G, hG⟩ := Go.Deep.choose_lt (α := Ops × ((Nat -> Int) × (Nat -> Int) × (Nat -> Int))) (n := len) (p := fun i g => w.cells? 0 (a.add (i * 15)) 15 = some [int i64 g.1.kd, int i64 g.1.on, int i64 g.1.a, int i64 g.1.b, int i64 g.1.c, .int .i32 g.1.v, int i64 g.1.te, int i64 g.1.tn, int i64 g.1.fs, int i64 g.1.fle, int i64 g.1.fla, int i64 g.1.fwi, int i64 g.1.fke, int i64 g.1.fqu, .slice g.1.fa g.1.fn g.1.fcap] /\ TS w g.1.fa g.1.fn g.2.1 g.2.2.1 g.2.2.2 /\ ((∀ y ∈ (D i).weights Tryz.prog 68, y <= reachBytes) -> g.1.fits)) (fun i hi => by
   obtain ⟨cs', h1, h2⟩ := hx i (by rw [hmm]; simp; omega)
   obtain ⟨o, T, rfl, h3, h4⟩ := open_op h2
   exact ⟨(o, T), h1, h3, h4⟩)
  simp only [DataW.weights, Tryz.underlying22, Tryz.bytesOp] at hw
  have hlen : len <= 1099511627776 := by
   have := hw _ (List.mem_cons_self ..)
   simp only [reachBytes, List.length_map, List.length_range] at this
   omega
  refine ⟨some a, len, cap, fun i => (G i).1, fun i => (G i).2, rfl, fun h0 => ?_, hlen, fun i hi => (hG i hi).2.1, fun i hi => (hG i hi).2.2 (fun y hy => hw y (List.mem_cons_of_mem _ (List.mem_append_left _ (wt_all (d := D i) (List.mem_map.2 ⟨i, List.mem_range.2 hi, rfl⟩) y hy))))⟩
  obtain ⟨b, off, spot⟩ := a
  have c0 := (World.cells?_some (hG 0 h0).1).2.2 0 (by omega)
  have hspot : spot = none := by simpa [Addr.add] using World.cell?_spot (c0.trans (by rfl))
  subst hspot
  have hbz : b < w.heap.size := by
   have : w.cell? ⟨b, off, none⟩ = some (int i64 (G 0).1.kd) := by simpa [Addr.add] using c0
   by_cases hc : b < w.heap.size
   ·exact hc
   ·simp [World.cell?, Array.getElem?_eq_none (show w.heap.size <= b by omega)] at this
  refine ⟨b, off, rfl, hbz, fun i hi => ?_⟩
  have e := (World.cells?_some (hG i hi).1).2.2
  refine ⟨?_, ?_, ?_, ?_, ?_, ?_, ?_, ?_, ?_, ?_, ?_, ?_, ?_, ?_, ?_⟩
  ·have := e 0 (by omega); simpa [zbt] using this
  ·have := e 1 (by omega); simpa [zbt] using this
  ·have := e 2 (by omega); simpa [zbt] using this
  ·have := e 3 (by omega); simpa [zbt] using this
  ·have := e 4 (by omega); simpa [zbt] using this
  ·have := e 5 (by omega); simpa [zbt] using this
  ·have := e 6 (by omega); simpa [zbt] using this
  ·have := e 7 (by omega); simpa [zbt] using this
  ·have := e 8 (by omega); simpa [zbt] using this
  ·have := e 9 (by omega); simpa [zbt] using this
  ·have := e 10 (by omega); simpa [zbt] using this
  ·have := e 11 (by omega); simpa [zbt] using this
  ·have := e 12 (by omega); simpa [zbt] using this
  ·have := e 13 (by omega); simpa [zbt] using this
  ·have := e 14 (by omega); simpa [zbt] using this
end
end Go.Proofs.YtpbimdkclnekeaaGreat

namespace Go.Proofs.YtpbimdkclnekeaaGreat
open Value (int)
open IntKind (i64)
open Go.RowKit
set_option linter.unusedVariables false
def zay (x d : Nat) (c : Cf) (ct mv td : Value) (ep : Int) : Obj := .cells #[.pointer (some ⟨x, 0, none⟩), .pointer (some ⟨d, 0, none⟩), int i64 c.s, int i64 c.le, int i64 c.la, int i64 c.wi, int i64 c.ke, int i64 c.qu, ct, mv, .slice none 0 0, td, int i64 ep, .bool false, .bool false] 106 (0, 0)
set_option maxRecDepth 8000 in
set_option maxHeartbeats 2000000 in
theorem token_own {w : World} {po x d : Nat} {ct mv td : Value} {eo : Int} (c' : Cf) (hp : w.heap[po]? = some (zay x d c' ct mv td eo)) (o : Ops) (hb : ¬ o.b = 0) :
  Calls Tryz.prog 102 #[.pointer (some ⟨po, 0, none⟩), .agg #[int i64 o.kd, int i64 o.on, int i64 o.a, int i64 o.b, int i64 o.c, .int .i32 o.v, int i64 o.te, int i64 o.tn, int i64 o.fs, int i64 o.fle, int i64 o.fla, int i64 o.fwi, int i64 o.fke, int i64 o.fqu, .slice o.fa o.fn o.fcap]] w fun e w' => e = .returned (.agg #[int i64 o.te, int i64 o.tn]) /\ Below w.heap.size w w' := by
 have p11 : w.cell? ⟨po, 11, none⟩ = some td := by unfold zay at hp; rw [zac hp]; rfl
 have hpl := zaa hp
 clear hp
 go_enter Tryz.func102, Tryz.ntmps102
 go_wp2_with fail
 all_goals
  refine bodyPost_ret (v := .agg #[int i64 o.te, int i64 o.tn]) (results_cell_row Tryz.results102 _ _ (w.heap.size + 1) _ _ _ _ rfl (box2 w _ _).2.1 Tryz.underlying49 rfl (by kernel_rfl)) rfl ?_
  exact ⟨rfl, (box2 w _ _).2.2.1⟩
set_option maxRecDepth 8000 in
set_option maxHeartbeats 2000000 in
theorem token_none {w : World} {po x d cap : Nat} {a : Option Addr} {ct mv : Value} {eo : Int} (c' : Cf) (hp : w.heap[po]? = some (zay x d c' ct mv (.slice a 0 cap) eo)) (o : Ops) :
  Calls Tryz.prog 102 #[.pointer (some ⟨po, 0, none⟩), .agg #[int i64 o.kd, int i64 o.on, int i64 o.a, int i64 o.b, int i64 o.c, .int .i32 o.v, int i64 o.te, int i64 o.tn, int i64 o.fs, int i64 o.fle, int i64 o.fla, int i64 o.fwi, int i64 o.fke, int i64 o.fqu, .slice o.fa o.fn o.fcap]] w fun e w' => e = .returned (.agg #[int i64 o.te, int i64 o.tn]) /\ Below w.heap.size w w' := by
 have p11 : w.cell? ⟨po, 11, none⟩ = some (.slice a 0 cap) := by unfold zay at hp; rw [zac hp]; rfl
 have hpl := zaa hp
 clear hp
 go_enter Tryz.func102, Tryz.ntmps102
 go_wp2_with fail
 all_goals
  refine bodyPost_ret (v := .agg #[int i64 o.te, int i64 o.tn]) (results_cell_row Tryz.results102 _ _ (w.heap.size + 1) _ _ _ _ rfl (box2 w _ _).2.1 Tryz.underlying49 rfl (by kernel_rfl)) rfl ?_
  exact ⟨rfl, (box2 w _ _).2.2.1⟩
set_option maxRecDepth 8000 in
set_option maxHeartbeats 2000000 in
theorem token_told {w : World} {po x d g n cap : Nat} {ct mv : Value} {eo te tn : Int} (c' : Cf) (hp : w.heap[po]? = some (zay x d c' ct mv (.slice (some ⟨g, 0, none⟩) n cap) eo)) (o : Ops) (hb : o.b = 0) (hg : g < w.heap.size) {i j : Nat} (hj : (n : Int) - 1 - (i : Int) = (j : Int)) (hjn : j < n) (hn : n <= 1099511627776) (hpk : ∀ w : World, Calls Tryz.prog 54 #[int i64 o.a, int i64 n] w fun e w' => e = .returned (int i64 i) /\ w' = w) (h0 : w.cell? ⟨g, j * 2, none⟩ = some (int i64 te)) (h1 : w.cell? ⟨g, j * 2 + 1, none⟩ = some (int i64 tn)) :
  Calls Tryz.prog 102 #[.pointer (some ⟨po, 0, none⟩), .agg #[int i64 o.kd, int i64 o.on, int i64 o.a, int i64 o.b, int i64 o.c, .int .i32 o.v, int i64 o.te, int i64 o.tn, int i64 o.fs, int i64 o.fle, int i64 o.fla, int i64 o.fwi, int i64 o.fke, int i64 o.fqu, .slice o.fa o.fn o.fcap]] w fun e w' => e = .returned (.agg #[int i64 te, int i64 tn]) /\ Below w.heap.size w w' := by
 obtain ⟨y0, y1, hbw, yz⟩ := box2 w (.cells #[int i64 o.kd, int i64 o.on, int i64 o.a, int i64 o.b, int i64 o.c, .int .i32 o.v, int i64 o.te, int i64 o.tn, int i64 o.fs, int i64 o.fle, int i64 o.fla, int i64 o.fwi, int i64 o.fke, int i64 o.fqu, .slice o.fa o.fn o.fcap] 68) (.cells #[int i64 0, int i64 0] 49)
 have hpl := zaa hp
 have hpx := (hbw.block po hpl).trans hp
 have p11 : ((w.alloc (.cells #[int i64 o.kd, int i64 o.on, int i64 o.a, int i64 o.b, int i64 o.c, .int .i32 o.v, int i64 o.te, int i64 o.tn, int i64 o.fs, int i64 o.fle, int i64 o.fla, int i64 o.fwi, int i64 o.fke, int i64 o.fqu, .slice o.fa o.fn o.fcap] 68)).alloc (.cells #[int i64 0, int i64 0] 49)).cell? ⟨po, 11, none⟩ = some (.slice (some ⟨g, 0, none⟩) n cap) := by unfold zay at hpx; rw [zac hpx]; rfl
 have c2 : ((w.alloc (.cells #[int i64 o.kd, int i64 o.on, int i64 o.a, int i64 o.b, int i64 o.c, .int .i32 o.v, int i64 o.te, int i64 o.tn, int i64 o.fs, int i64 o.fle, int i64 o.fla, int i64 o.fwi, int i64 o.fke, int i64 o.fqu, .slice o.fa o.fn o.fcap] 68)).alloc (.cells #[int i64 0, int i64 0] 49)).cell? ⟨w.heap.size, 2, none⟩ = some (int i64 o.a) := by rw [zac y0]; rfl
 have c3 : ((w.alloc (.cells #[int i64 o.kd, int i64 o.on, int i64 o.a, int i64 o.b, int i64 o.c, .int .i32 o.v, int i64 o.te, int i64 o.tn, int i64 o.fs, int i64 o.fle, int i64 o.fla, int i64 o.fwi, int i64 o.fke, int i64 o.fqu, .slice o.fa o.fn o.fcap] 68)).alloc (.cells #[int i64 0, int i64 0] 49)).cell? ⟨w.heap.size, 3, none⟩ = some (int i64 0) := by rw [zac y0, hb]; rfl
 have g0 := (hbw.cell (p := ⟨g, j * 2, none⟩) hg).trans h0
 have g1 := (hbw.cell (p := ⟨g, j * 2 + 1, none⟩) hg).trans h1
 have HPK := fun W => zab (hpk W)
 have hn0 : ¬ (n : Int) = 0 := by omega
 have hjl : (j : Int) < (n : Int) := by omega
 have hjg : 0 <= (n : Int) - 1 - (i : Int) := by omega
 have Y1 := zab y1
 have HBW := zab hbw
 have q1 : po < w.heap.size + 2 := by omega
 have q2 : g < w.heap.size + 2 := by omega
 have q3 : w.heap.size < w.heap.size + 2 := by omega
 clear hp hpx hpk h0 h1 y0 y1 hbw yz hb
 go_enter Tryz.func102, Tryz.ntmps102
 generalize o.b = ob at *
 go_wp2_with fail
 generalize ((w.alloc (.cells #[int i64 o.kd, int i64 o.on, int i64 o.a, int i64 ob, int i64 o.c, .int .i32 o.v, int i64 o.te, int i64 o.tn, int i64 o.fs, int i64 o.fle, int i64 o.fla, int i64 o.fwi, int i64 o.fke, int i64 o.fqu, .slice o.fa o.fn o.fcap] 68)).alloc (.cells #[int i64 0, int i64 0] 49)) = X at *
 have y0 : X.cell? ⟨w.heap.size + 1, 0, none⟩ = some (int i64 0) := by rw [zac (ud Y1)]; rfl
 have y1 : X.cell? ⟨w.heap.size + 1, 1, none⟩ = some (int i64 0) := by rw [zac (ud Y1)]; rfl
 have yf := fun k => zaz (ud Y1) k
 refine zes 21 (by kernel_rfl) (by kernel_rfl) ?_
 simp only [List.take_succ_cons, List.take_zero, List.drop_succ_cons, List.drop_zero]
 iterate 17 still_step
 still_call (ud (HPK _))
 still_step
 have e1 : IntKind.i64.wrap ((n : Int) - 1) = (n : Int) - 1 := by rw [IntKind.wrap_i64]; omega
 have e2 : IntKind.i64.wrap ((n : Int) - 1 - (i : Int)) = (j : Int) := by rw [IntKind.wrap_i64]; omega
 rw [e1, e2]
 repeat still_step
 refine wpStill_nil ?_
 go_wp2_with fail
 have hf : (((X.setCell ⟨w.heap.size + 1, 0, none⟩ (int i64 te)).setCell ⟨w.heap.size + 1, 1, none⟩ (int i64 tn)).drew).heap[w.heap.size + 1]? = some (.cells #[int i64 te, int i64 tn] 49 (0, 0)) := zbz (i := 1) (zbz (i := 0) (ud Y1) _) _
 refine bodyPost_ret (v := .agg #[int i64 te, int i64 tn]) (results_cell_row Tryz.results102 _ _ (w.heap.size + 1) _ _ _ _ rfl hf Tryz.underlying49 rfl (by kernel_rfl)) rfl ?_
 exact ⟨rfl, (((ud HBW).setCell (p := ⟨w.heap.size + 1, 0, none⟩) (show w.heap.size <= w.heap.size + 1 by omega) _).setCell (p := ⟨w.heap.size + 1, 1, none⟩) (show w.heap.size <= w.heap.size + 1 by omega) _).drew⟩
end Go.Proofs.YtpbimdkclnekeaaGreat
