import Derived.Test.YtgadceofpbfleaaGreatQOps0

/- Walks: the statement's pick. -/
namespace Go.Proofs.YtgadceofpbfleaaGreat
open Go.RowKit
set_option linter.unusedVariables false

theorem mod_nat (c : Int) (n : Nat) (hn : 0 < n) : ∃ i : Nat, c % (n : Int) = i ∧ i < n := by
  have h0 := Int.emod_nonneg c (show (n : Int) ≠ 0 by omega)
  have h1 := Int.emod_lt_of_pos c (show (0 : Int) < n by omega)
  exact ⟨(c % (n : Int)).toNat, by omega, by omega⟩

set_option maxRecDepth 8000 in
set_option maxHeartbeats 1000000 in
theorem pick_at (c : Int) (n : Nat) (hc : -9223372036854775808 ≤ c ∧ c ≤ 9223372036854775807) (hn : 0 < n) :
    ∃ i : Nat, i < n ∧ ∀ w : World, Calls Tryz.prog 18 #[.int .i64 c, .int .i64 n] w fun e w' => e = .returned (.int .i64 i) ∧ w' = w := by
  have hn0 : ¬ (n : Int) = 0 := by omega
  by_cases h : c < 0
  · obtain ⟨i, hi, hl⟩ := mod_nat (-(c + 1)) n hn
    refine ⟨i, hl, fun w => ?_⟩
    have HI := hide hi
    clear hi
    go_enter Tryz.func18, Tryz.ntmps18
    go_wp2
    go_ret
    have e1 : -(c + 1).tmod (n : Int) = (-(c + 1)) % (n : Int) := by rw [← Int.neg_tmod, Int.tmod_eq_emod_of_nonneg (by omega)]
    exact ⟨by show Ending.returned (.int .i64 (-(c + 1).tmod (n : Int))) = _; rw [e1, unhide HI], rfl⟩
  · obtain ⟨i, hi, hl⟩ := mod_nat c n hn
    refine ⟨i, hl, fun w => ?_⟩
    have HI := hide hi
    clear hi
    go_enter Tryz.func18, Tryz.ntmps18
    go_wp2
    go_ret
    exact ⟨by show Ending.returned (.int .i64 (c % (n : Int))) = _; rw [unhide HI], rfl⟩
end Go.Proofs.YtgadceofpbfleaaGreat

/- Walks: the statement's looks, where no list came out. -/
namespace Go.Proofs.YtgadceofpbfleaaGreat
open Go.RowKit
set_option linter.unusedVariables false

set_option maxRecDepth 8000 in
set_option maxHeartbeats 1000000 in
theorem looks_any {wb : Nat} {pv : Value} (w : World) (hw : w.heap[wb]? = some (.cells #[pv, .slice none 0 0] 29 (0, 0))) :
    Calls Tryz.prog 8 #[.pointer (some ⟨wb, 0, none⟩)] w fun e w' => e = .returned (.bool true) ∧ w' = w := by
  have k1 : w.cell? ⟨wb, 1, none⟩ = some (.slice none 0 0) := by rw [rcell hw]; rfl
  have hwl := lt_of_heap hw
  go_enter Tryz.func8, Tryz.ntmps8
  go_wp2_with fail
  refine wp_loop_rounds 1 ?_
  rw [rounds_succ]
  go_wp2_with fail
  go_ret
  exact ⟨rfl, rfl⟩
end Go.Proofs.YtgadceofpbfleaaGreat

/- Walks: the statement's step (written by wip/mklawC.py). -/
namespace Go.Proofs.YtgadceofpbfleaaGreat
open Go.RowKit
set_option linter.unusedVariables false

theorem ptr_at {w : World} {B : Nat} {e : TypeId} {g : Nat} {cap i po : Nat} {ps : List Nat} (h : w.ownsRow B e 1 (.slice (some ⟨g, 0, none⟩) ps.length cap) ps.length (ps.map (fun q => .pointer (some ⟨q, 0, none⟩)))) (hi : ps[i]? = some po) : w.cell? ⟨g, i, none⟩ = some (.pointer (some ⟨po, 0, none⟩)) := by
  have hl : i < ps.length := (List.getElem?_eq_some_iff.1 hi).1
  rw [h.cellAt i (by simpa using hl)]
  simp [hi]

set_option maxRecDepth 8000 in
set_option maxHeartbeats 2000000 in
theorem stp_none {w : World} {wb : Nat} {cap : Nat} {a : Option Addr} {lv : Value} (hw : w.heap[wb]? = some (.cells #[.slice a 0 cap, lv] 29 (0, 0))) (o : Ops) (kk : Int) (k1 : ¬ kk = 1) (k13 : ¬ kk = 13) :
    Calls Tryz.prog 7 #[.pointer (some ⟨wb, 0, none⟩), .agg #[.int .i64 kk, .int .i64 o.on, .int .i64 o.a, .int .i64 o.b, .int .i64 o.c, .int .i32 o.v, .int .i64 o.te, .int .i64 o.tn, .int .i64 o.fs, .int .i64 o.fle, .int .i64 o.fla, .int .i64 o.fwi, .int .i64 o.fke, .int .i64 o.fqu, .slice o.fa o.fn o.fcap]] w fun e w' => e = .returned (.bool true) ∧ Below w.heap.size w w' := by
  have hwl := lt_of_heap hw
  have hb0 : Below w.heap.size w (w.alloc (.cells #[.int .i64 kk, .int .i64 o.on, .int .i64 o.a, .int .i64 o.b, .int .i64 o.c, .int .i32 o.v, .int .i64 o.te, .int .i64 o.tn, .int .i64 o.fs, .int .i64 o.fle, .int .i64 o.fla, .int .i64 o.fwi, .int .i64 o.fke, .int .i64 o.fqu, .slice o.fa o.fn o.fcap] 39)) := (Below.refl _ _).alloc (Nat.le_refl _) _
  have hl0 := rlast w (.cells #[.int .i64 kk, .int .i64 o.on, .int .i64 o.a, .int .i64 o.b, .int .i64 o.c, .int .i32 o.v, .int .i64 o.te, .int .i64 o.tn, .int .i64 o.fs, .int .i64 o.fle, .int .i64 o.fla, .int .i64 o.fwi, .int .i64 o.fke, .int .i64 o.fqu, .slice o.fa o.fn o.fcap] 39)
  have hsz : (w.alloc (.cells #[.int .i64 kk, .int .i64 o.on, .int .i64 o.a, .int .i64 o.b, .int .i64 o.c, .int .i32 o.v, .int .i64 o.te, .int .i64 o.tn, .int .i64 o.fs, .int .i64 o.fle, .int .i64 o.fla, .int .i64 o.fwi, .int .i64 o.fke, .int .i64 o.fqu, .slice o.fa o.fn o.fcap] 39)).heap.size = w.heap.size + 1 := rsize w _
  have hwX := (hb0.block wb hwl).trans hw
  have HB := hide hb0
  have z0 : (w.alloc (.cells #[.int .i64 kk, .int .i64 o.on, .int .i64 o.a, .int .i64 o.b, .int .i64 o.c, .int .i32 o.v, .int .i64 o.te, .int .i64 o.tn, .int .i64 o.fs, .int .i64 o.fle, .int .i64 o.fla, .int .i64 o.fwi, .int .i64 o.fke, .int .i64 o.fqu, .slice o.fa o.fn o.fcap] 39)).cell? ⟨wb, 0, none⟩ = some (.slice a 0 cap) := by rw [rcell hwX]; rfl
  have y0 : (w.alloc (.cells #[.int .i64 kk, .int .i64 o.on, .int .i64 o.a, .int .i64 o.b, .int .i64 o.c, .int .i32 o.v, .int .i64 o.te, .int .i64 o.tn, .int .i64 o.fs, .int .i64 o.fle, .int .i64 o.fla, .int .i64 o.fwi, .int .i64 o.fke, .int .i64 o.fqu, .slice o.fa o.fn o.fcap] 39)).cell? ⟨w.heap.size, 0, none⟩ = some (.int .i64 kk) := by rw [rcell hl0]; rfl
  clear hb0 hl0 hsz hwX hw
  go_enter Tryz.func7, Tryz.ntmps7
  go_wp2_with fail
  go_ret
  exact ⟨rfl, unhide HB⟩

set_option maxRecDepth 8000 in
set_option maxHeartbeats 2000000 in
theorem stp_2 {B : Nat} {w : World} {wb : Nat} {pv lv : Value} {ps : List Nat} (hw : w.heap[wb]? = some (.cells #[pv, lv] 29 (0, 0))) (hps : w.ownsRow B 50 1 pv ps.length (ps.map (fun q => .pointer (some ⟨q, 0, none⟩)))) {i po : Nat} (hpi : ps[i]? = some po) (hpo : po < w.heap.size) (hgo : w.cell? ⟨po, 14, none⟩ = some (.bool false)) (o : Ops) (hpk : ∀ w : World, Calls Tryz.prog 18 #[.int .i64 o.on, .int .i64 ps.length] w fun e w' => e = .returned (.int .i64 i) ∧ w' = w) (R : World → Prop)
    (HA : ∀ w4, Below w.heap.size w w4 → Calls Tryz.prog 19 #[.pointer (some ⟨po, 0, none⟩), .agg #[.int .i64 2, .int .i64 o.on, .int .i64 o.a, .int .i64 o.b, .int .i64 o.c, .int .i32 o.v, .int .i64 o.te, .int .i64 o.tn, .int .i64 o.fs, .int .i64 o.fle, .int .i64 o.fla, .int .i64 o.fwi, .int .i64 o.fke, .int .i64 o.fqu, .slice o.fa o.fn o.fcap]] w4 fun e w' => e = .returned (.bool true) ∧ R w') :
    Calls Tryz.prog 7 #[.pointer (some ⟨wb, 0, none⟩), .agg #[.int .i64 2, .int .i64 o.on, .int .i64 o.a, .int .i64 o.b, .int .i64 o.c, .int .i32 o.v, .int .i64 o.te, .int .i64 o.tn, .int .i64 o.fs, .int .i64 o.fle, .int .i64 o.fla, .int .i64 o.fwi, .int .i64 o.fke, .int .i64 o.fqu, .slice o.fa o.fn o.fcap]] w fun e w' => e = .returned (.bool true) ∧ R w' := by
  obtain ⟨pa, pcap, rfl⟩ := row_slice hps
  have hil : i < ps.length := (List.getElem?_eq_some_iff.1 hpi).1
  obtain ⟨gb, gcap, hgv, _, hgl⟩ := hps.form (by omega)
  cases hgv
  have hwl := lt_of_heap hw
  have hb0 : Below w.heap.size w (w.alloc (.cells #[.int .i64 2, .int .i64 o.on, .int .i64 o.a, .int .i64 o.b, .int .i64 o.c, .int .i32 o.v, .int .i64 o.te, .int .i64 o.tn, .int .i64 o.fs, .int .i64 o.fle, .int .i64 o.fla, .int .i64 o.fwi, .int .i64 o.fke, .int .i64 o.fqu, .slice o.fa o.fn o.fcap] 39)) := (Below.refl _ _).alloc (Nat.le_refl _) _
  have hl0 := rlast w (.cells #[.int .i64 2, .int .i64 o.on, .int .i64 o.a, .int .i64 o.b, .int .i64 o.c, .int .i32 o.v, .int .i64 o.te, .int .i64 o.tn, .int .i64 o.fs, .int .i64 o.fle, .int .i64 o.fla, .int .i64 o.fwi, .int .i64 o.fke, .int .i64 o.fqu, .slice o.fa o.fn o.fcap] 39)
  have hsz : (w.alloc (.cells #[.int .i64 2, .int .i64 o.on, .int .i64 o.a, .int .i64 o.b, .int .i64 o.c, .int .i32 o.v, .int .i64 o.te, .int .i64 o.tn, .int .i64 o.fs, .int .i64 o.fle, .int .i64 o.fla, .int .i64 o.fwi, .int .i64 o.fke, .int .i64 o.fqu, .slice o.fa o.fn o.fcap] 39)).heap.size = w.heap.size + 1 := rsize w _
  have hwX := (hb0.block wb hwl).trans hw
  have hc0 := ptr_at hps hpi
  have hcX := ((hb0.cell (p := ⟨gb, i, none⟩) hgl)).trans hc0
  have hgX := ((hb0.cell (p := ⟨po, 14, none⟩) hpo)).trans hgo
  have hin : (i : Int) < (ps.length : Int) := by omega
  have hne1 : ¬ (ps.length : Int) = 0 := by omega
  have HB := hide hb0
  have HPK := fun W => hide (hpk W)
  have z0 : (w.alloc (.cells #[.int .i64 2, .int .i64 o.on, .int .i64 o.a, .int .i64 o.b, .int .i64 o.c, .int .i32 o.v, .int .i64 o.te, .int .i64 o.tn, .int .i64 o.fs, .int .i64 o.fle, .int .i64 o.fla, .int .i64 o.fwi, .int .i64 o.fke, .int .i64 o.fqu, .slice o.fa o.fn o.fcap] 39)).cell? ⟨wb, 0, none⟩ = some (.slice (some ⟨gb, 0, none⟩) ps.length pcap) := by rw [rcell hwX]; rfl
  have y0 : (w.alloc (.cells #[.int .i64 2, .int .i64 o.on, .int .i64 o.a, .int .i64 o.b, .int .i64 o.c, .int .i32 o.v, .int .i64 o.te, .int .i64 o.tn, .int .i64 o.fs, .int .i64 o.fle, .int .i64 o.fla, .int .i64 o.fwi, .int .i64 o.fke, .int .i64 o.fqu, .slice o.fa o.fn o.fcap] 39)).cell? ⟨w.heap.size, 0, none⟩ = some (.int .i64 2) := by rw [rcell hl0]; rfl
  have y1 : (w.alloc (.cells #[.int .i64 2, .int .i64 o.on, .int .i64 o.a, .int .i64 o.b, .int .i64 o.c, .int .i32 o.v, .int .i64 o.te, .int .i64 o.tn, .int .i64 o.fs, .int .i64 o.fle, .int .i64 o.fla, .int .i64 o.fwi, .int .i64 o.fke, .int .i64 o.fqu, .slice o.fa o.fn o.fcap] 39)).cell? ⟨w.heap.size, 1, none⟩ = some (.int .i64 o.on) := by rw [rcell hl0]; rfl
  have HL := hide hl0
  have HWX : Hid ((w.alloc (.cells #[.int .i64 2, .int .i64 o.on, .int .i64 o.a, .int .i64 o.b, .int .i64 o.c, .int .i32 o.v, .int .i64 o.te, .int .i64 o.tn, .int .i64 o.fs, .int .i64 o.fle, .int .i64 o.fla, .int .i64 o.fwi, .int .i64 o.fke, .int .i64 o.fqu, .slice o.fa o.fn o.fcap] 39)).heap.size = w.heap.size + 1) := hsz
  have HAA := hide HA
  clear HA
  clear hps hl0 hb0 hsz hw hwX hpk hgo hc0 hpi hil
  go_enter Tryz.func7, Tryz.ntmps7
  go_wp2_with fail
  have q1 : wb < w.heap.size + 1 := by omega
  have q2 : gb < w.heap.size + 1 := by omega
  have q3 : po < w.heap.size + 1 := by omega
  have q4 : w.heap.size < w.heap.size + 1 := by omega
  clear hwl hgl hpo
  generalize (w.alloc (.cells #[.int .i64 2, .int .i64 o.on, .int .i64 o.a, .int .i64 o.b, .int .i64 o.c, .int .i32 o.v, .int .i64 o.te, .int .i64 o.tn, .int .i64 o.fs, .int .i64 o.fle, .int .i64 o.fla, .int .i64 o.fwi, .int .i64 o.fke, .int .i64 o.fqu, .slice o.fa o.fn o.fcap] 39)) = X at *
  generalize w.heap.size + 1 = N at *
  have hne : Nonempty (Later N X) := Later.some _ _
  have hlc := fun (u : Later N X) b o h => u.cell b o h
  refine wp_region_later N (by kernel_rfl) (by kernel_rfl) ?_
  repeat (go_big_quiet_step (first | (go_at_call 18; exact Calls.later_same (unhide (HPK _)))))
  refine wpQuiet_nil ?_
  rintro ⟨w1, hb1⟩
  clear hlc hne
  have hgb := (hb1.cell (p := ⟨po, 14, none⟩) q3).trans hgX
  have hX1 := (hb1.block w.heap.size q4).trans (unhide HL)
  have hbw : Below w.heap.size w w1 := (unhide HB).trans (hb1.mono (Nat.le_of_lt q4))
  have a0 : w1.cell? ⟨w.heap.size, 0, none⟩ = some (.int .i64 2) := by rw [rcell hX1]; rfl
  have a1 : w1.cell? ⟨w.heap.size, 1, none⟩ = some (.int .i64 o.on) := by rw [rcell hX1]; rfl
  have a2 : w1.cell? ⟨w.heap.size, 2, none⟩ = some (.int .i64 o.a) := by rw [rcell hX1]; rfl
  have a3 : w1.cell? ⟨w.heap.size, 3, none⟩ = some (.int .i64 o.b) := by rw [rcell hX1]; rfl
  have a4 : w1.cell? ⟨w.heap.size, 4, none⟩ = some (.int .i64 o.c) := by rw [rcell hX1]; rfl
  have a5 : w1.cell? ⟨w.heap.size, 5, none⟩ = some (.int .i32 o.v) := by rw [rcell hX1]; rfl
  have a6 : w1.cell? ⟨w.heap.size, 6, none⟩ = some (.int .i64 o.te) := by rw [rcell hX1]; rfl
  have a7 : w1.cell? ⟨w.heap.size, 7, none⟩ = some (.int .i64 o.tn) := by rw [rcell hX1]; rfl
  have a8 : w1.cell? ⟨w.heap.size, 8, none⟩ = some (.int .i64 o.fs) := by rw [rcell hX1]; rfl
  have a9 : w1.cell? ⟨w.heap.size, 9, none⟩ = some (.int .i64 o.fle) := by rw [rcell hX1]; rfl
  have a10 : w1.cell? ⟨w.heap.size, 10, none⟩ = some (.int .i64 o.fla) := by rw [rcell hX1]; rfl
  have a11 : w1.cell? ⟨w.heap.size, 11, none⟩ = some (.int .i64 o.fwi) := by rw [rcell hX1]; rfl
  have a12 : w1.cell? ⟨w.heap.size, 12, none⟩ = some (.int .i64 o.fke) := by rw [rcell hX1]; rfl
  have a13 : w1.cell? ⟨w.heap.size, 13, none⟩ = some (.int .i64 o.fqu) := by rw [rcell hX1]; rfl
  have a14 : w1.cell? ⟨w.heap.size, 14, none⟩ = some (.slice o.fa o.fn o.fcap) := by rw [rcell hX1]; rfl
  have HAW := hide (unhide HAA w1 hbw)
  dsimp only
  clear HAA hX1 hgX hcX y0 y1 z0 hb1 hbw q1 q2 q3 q4
  go_wp2_with (first | (go_at_call 19; refine (unhide HAW).mono ?_; rintro e w' ⟨rfl, hR⟩) | fail)
  go_ret
  exact ⟨rfl, hR⟩

set_option maxRecDepth 8000 in
set_option maxHeartbeats 2000000 in
theorem stp_3 {B : Nat} {w : World} {wb : Nat} {pv lv : Value} {ps : List Nat} (hw : w.heap[wb]? = some (.cells #[pv, lv] 29 (0, 0))) (hps : w.ownsRow B 50 1 pv ps.length (ps.map (fun q => .pointer (some ⟨q, 0, none⟩)))) {i po : Nat} (hpi : ps[i]? = some po) (hpo : po < w.heap.size) (hgo : w.cell? ⟨po, 14, none⟩ = some (.bool false)) (o : Ops) (hpk : ∀ w : World, Calls Tryz.prog 18 #[.int .i64 o.on, .int .i64 ps.length] w fun e w' => e = .returned (.int .i64 i) ∧ w' = w) (R : World → Prop)
    (HA : ∀ w4, Below w.heap.size w w4 → Calls Tryz.prog 19 #[.pointer (some ⟨po, 0, none⟩), .agg #[.int .i64 3, .int .i64 o.on, .int .i64 o.a, .int .i64 o.b, .int .i64 o.c, .int .i32 o.v, .int .i64 o.te, .int .i64 o.tn, .int .i64 o.fs, .int .i64 o.fle, .int .i64 o.fla, .int .i64 o.fwi, .int .i64 o.fke, .int .i64 o.fqu, .slice o.fa o.fn o.fcap]] w4 fun e w' => e = .returned (.bool true) ∧ R w') :
    Calls Tryz.prog 7 #[.pointer (some ⟨wb, 0, none⟩), .agg #[.int .i64 3, .int .i64 o.on, .int .i64 o.a, .int .i64 o.b, .int .i64 o.c, .int .i32 o.v, .int .i64 o.te, .int .i64 o.tn, .int .i64 o.fs, .int .i64 o.fle, .int .i64 o.fla, .int .i64 o.fwi, .int .i64 o.fke, .int .i64 o.fqu, .slice o.fa o.fn o.fcap]] w fun e w' => e = .returned (.bool true) ∧ R w' := by
  obtain ⟨pa, pcap, rfl⟩ := row_slice hps
  have hil : i < ps.length := (List.getElem?_eq_some_iff.1 hpi).1
  obtain ⟨gb, gcap, hgv, _, hgl⟩ := hps.form (by omega)
  cases hgv
  have hwl := lt_of_heap hw
  have hb0 : Below w.heap.size w (w.alloc (.cells #[.int .i64 3, .int .i64 o.on, .int .i64 o.a, .int .i64 o.b, .int .i64 o.c, .int .i32 o.v, .int .i64 o.te, .int .i64 o.tn, .int .i64 o.fs, .int .i64 o.fle, .int .i64 o.fla, .int .i64 o.fwi, .int .i64 o.fke, .int .i64 o.fqu, .slice o.fa o.fn o.fcap] 39)) := (Below.refl _ _).alloc (Nat.le_refl _) _
  have hl0 := rlast w (.cells #[.int .i64 3, .int .i64 o.on, .int .i64 o.a, .int .i64 o.b, .int .i64 o.c, .int .i32 o.v, .int .i64 o.te, .int .i64 o.tn, .int .i64 o.fs, .int .i64 o.fle, .int .i64 o.fla, .int .i64 o.fwi, .int .i64 o.fke, .int .i64 o.fqu, .slice o.fa o.fn o.fcap] 39)
  have hsz : (w.alloc (.cells #[.int .i64 3, .int .i64 o.on, .int .i64 o.a, .int .i64 o.b, .int .i64 o.c, .int .i32 o.v, .int .i64 o.te, .int .i64 o.tn, .int .i64 o.fs, .int .i64 o.fle, .int .i64 o.fla, .int .i64 o.fwi, .int .i64 o.fke, .int .i64 o.fqu, .slice o.fa o.fn o.fcap] 39)).heap.size = w.heap.size + 1 := rsize w _
  have hwX := (hb0.block wb hwl).trans hw
  have hc0 := ptr_at hps hpi
  have hcX := ((hb0.cell (p := ⟨gb, i, none⟩) hgl)).trans hc0
  have hgX := ((hb0.cell (p := ⟨po, 14, none⟩) hpo)).trans hgo
  have hin : (i : Int) < (ps.length : Int) := by omega
  have hne1 : ¬ (ps.length : Int) = 0 := by omega
  have HB := hide hb0
  have HPK := fun W => hide (hpk W)
  have z0 : (w.alloc (.cells #[.int .i64 3, .int .i64 o.on, .int .i64 o.a, .int .i64 o.b, .int .i64 o.c, .int .i32 o.v, .int .i64 o.te, .int .i64 o.tn, .int .i64 o.fs, .int .i64 o.fle, .int .i64 o.fla, .int .i64 o.fwi, .int .i64 o.fke, .int .i64 o.fqu, .slice o.fa o.fn o.fcap] 39)).cell? ⟨wb, 0, none⟩ = some (.slice (some ⟨gb, 0, none⟩) ps.length pcap) := by rw [rcell hwX]; rfl
  have y0 : (w.alloc (.cells #[.int .i64 3, .int .i64 o.on, .int .i64 o.a, .int .i64 o.b, .int .i64 o.c, .int .i32 o.v, .int .i64 o.te, .int .i64 o.tn, .int .i64 o.fs, .int .i64 o.fle, .int .i64 o.fla, .int .i64 o.fwi, .int .i64 o.fke, .int .i64 o.fqu, .slice o.fa o.fn o.fcap] 39)).cell? ⟨w.heap.size, 0, none⟩ = some (.int .i64 3) := by rw [rcell hl0]; rfl
  have y1 : (w.alloc (.cells #[.int .i64 3, .int .i64 o.on, .int .i64 o.a, .int .i64 o.b, .int .i64 o.c, .int .i32 o.v, .int .i64 o.te, .int .i64 o.tn, .int .i64 o.fs, .int .i64 o.fle, .int .i64 o.fla, .int .i64 o.fwi, .int .i64 o.fke, .int .i64 o.fqu, .slice o.fa o.fn o.fcap] 39)).cell? ⟨w.heap.size, 1, none⟩ = some (.int .i64 o.on) := by rw [rcell hl0]; rfl
  have HL := hide hl0
  have HWX : Hid ((w.alloc (.cells #[.int .i64 3, .int .i64 o.on, .int .i64 o.a, .int .i64 o.b, .int .i64 o.c, .int .i32 o.v, .int .i64 o.te, .int .i64 o.tn, .int .i64 o.fs, .int .i64 o.fle, .int .i64 o.fla, .int .i64 o.fwi, .int .i64 o.fke, .int .i64 o.fqu, .slice o.fa o.fn o.fcap] 39)).heap.size = w.heap.size + 1) := hsz
  have HAA := hide HA
  clear HA
  clear hps hl0 hb0 hsz hw hwX hpk hgo hc0 hpi hil
  go_enter Tryz.func7, Tryz.ntmps7
  go_wp2_with fail
  have q1 : wb < w.heap.size + 1 := by omega
  have q2 : gb < w.heap.size + 1 := by omega
  have q3 : po < w.heap.size + 1 := by omega
  have q4 : w.heap.size < w.heap.size + 1 := by omega
  clear hwl hgl hpo
  generalize (w.alloc (.cells #[.int .i64 3, .int .i64 o.on, .int .i64 o.a, .int .i64 o.b, .int .i64 o.c, .int .i32 o.v, .int .i64 o.te, .int .i64 o.tn, .int .i64 o.fs, .int .i64 o.fle, .int .i64 o.fla, .int .i64 o.fwi, .int .i64 o.fke, .int .i64 o.fqu, .slice o.fa o.fn o.fcap] 39)) = X at *
  generalize w.heap.size + 1 = N at *
  have hne : Nonempty (Later N X) := Later.some _ _
  have hlc := fun (u : Later N X) b o h => u.cell b o h
  refine wp_region_later N (by kernel_rfl) (by kernel_rfl) ?_
  repeat (go_big_quiet_step (first | (go_at_call 18; exact Calls.later_same (unhide (HPK _)))))
  refine wpQuiet_nil ?_
  rintro ⟨w1, hb1⟩
  clear hlc hne
  have hgb := (hb1.cell (p := ⟨po, 14, none⟩) q3).trans hgX
  have hX1 := (hb1.block w.heap.size q4).trans (unhide HL)
  have hbw : Below w.heap.size w w1 := (unhide HB).trans (hb1.mono (Nat.le_of_lt q4))
  have a0 : w1.cell? ⟨w.heap.size, 0, none⟩ = some (.int .i64 3) := by rw [rcell hX1]; rfl
  have a1 : w1.cell? ⟨w.heap.size, 1, none⟩ = some (.int .i64 o.on) := by rw [rcell hX1]; rfl
  have a2 : w1.cell? ⟨w.heap.size, 2, none⟩ = some (.int .i64 o.a) := by rw [rcell hX1]; rfl
  have a3 : w1.cell? ⟨w.heap.size, 3, none⟩ = some (.int .i64 o.b) := by rw [rcell hX1]; rfl
  have a4 : w1.cell? ⟨w.heap.size, 4, none⟩ = some (.int .i64 o.c) := by rw [rcell hX1]; rfl
  have a5 : w1.cell? ⟨w.heap.size, 5, none⟩ = some (.int .i32 o.v) := by rw [rcell hX1]; rfl
  have a6 : w1.cell? ⟨w.heap.size, 6, none⟩ = some (.int .i64 o.te) := by rw [rcell hX1]; rfl
  have a7 : w1.cell? ⟨w.heap.size, 7, none⟩ = some (.int .i64 o.tn) := by rw [rcell hX1]; rfl
  have a8 : w1.cell? ⟨w.heap.size, 8, none⟩ = some (.int .i64 o.fs) := by rw [rcell hX1]; rfl
  have a9 : w1.cell? ⟨w.heap.size, 9, none⟩ = some (.int .i64 o.fle) := by rw [rcell hX1]; rfl
  have a10 : w1.cell? ⟨w.heap.size, 10, none⟩ = some (.int .i64 o.fla) := by rw [rcell hX1]; rfl
  have a11 : w1.cell? ⟨w.heap.size, 11, none⟩ = some (.int .i64 o.fwi) := by rw [rcell hX1]; rfl
  have a12 : w1.cell? ⟨w.heap.size, 12, none⟩ = some (.int .i64 o.fke) := by rw [rcell hX1]; rfl
  have a13 : w1.cell? ⟨w.heap.size, 13, none⟩ = some (.int .i64 o.fqu) := by rw [rcell hX1]; rfl
  have a14 : w1.cell? ⟨w.heap.size, 14, none⟩ = some (.slice o.fa o.fn o.fcap) := by rw [rcell hX1]; rfl
  have HAW := hide (unhide HAA w1 hbw)
  dsimp only
  clear HAA hX1 hgX hcX y0 y1 z0 hb1 hbw q1 q2 q3 q4
  go_wp2_with (first | (go_at_call 19; refine (unhide HAW).mono ?_; rintro e w' ⟨rfl, hR⟩) | fail)
  go_ret
  exact ⟨rfl, hR⟩

set_option maxRecDepth 8000 in
set_option maxHeartbeats 2000000 in
theorem stp_4 {B : Nat} {w : World} {wb : Nat} {pv lv : Value} {ps : List Nat} (hw : w.heap[wb]? = some (.cells #[pv, lv] 29 (0, 0))) (hps : w.ownsRow B 50 1 pv ps.length (ps.map (fun q => .pointer (some ⟨q, 0, none⟩)))) {i po : Nat} (hpi : ps[i]? = some po) (hpo : po < w.heap.size) (hgo : w.cell? ⟨po, 14, none⟩ = some (.bool false)) (o : Ops) (hpk : ∀ w : World, Calls Tryz.prog 18 #[.int .i64 o.on, .int .i64 ps.length] w fun e w' => e = .returned (.int .i64 i) ∧ w' = w) (R : World → Prop)
    (HA : ∀ w4, Below w.heap.size w w4 → Calls Tryz.prog 20 #[.pointer (some ⟨wb, 0, none⟩), .pointer (some ⟨po, 0, none⟩), .agg #[.int .i64 4, .int .i64 o.on, .int .i64 o.a, .int .i64 o.b, .int .i64 o.c, .int .i32 o.v, .int .i64 o.te, .int .i64 o.tn, .int .i64 o.fs, .int .i64 o.fle, .int .i64 o.fla, .int .i64 o.fwi, .int .i64 o.fke, .int .i64 o.fqu, .slice o.fa o.fn o.fcap]] w4 fun e w' => e = .returned (.bool true) ∧ R w') :
    Calls Tryz.prog 7 #[.pointer (some ⟨wb, 0, none⟩), .agg #[.int .i64 4, .int .i64 o.on, .int .i64 o.a, .int .i64 o.b, .int .i64 o.c, .int .i32 o.v, .int .i64 o.te, .int .i64 o.tn, .int .i64 o.fs, .int .i64 o.fle, .int .i64 o.fla, .int .i64 o.fwi, .int .i64 o.fke, .int .i64 o.fqu, .slice o.fa o.fn o.fcap]] w fun e w' => e = .returned (.bool true) ∧ R w' := by
  obtain ⟨pa, pcap, rfl⟩ := row_slice hps
  have hil : i < ps.length := (List.getElem?_eq_some_iff.1 hpi).1
  obtain ⟨gb, gcap, hgv, _, hgl⟩ := hps.form (by omega)
  cases hgv
  have hwl := lt_of_heap hw
  have hb0 : Below w.heap.size w (w.alloc (.cells #[.int .i64 4, .int .i64 o.on, .int .i64 o.a, .int .i64 o.b, .int .i64 o.c, .int .i32 o.v, .int .i64 o.te, .int .i64 o.tn, .int .i64 o.fs, .int .i64 o.fle, .int .i64 o.fla, .int .i64 o.fwi, .int .i64 o.fke, .int .i64 o.fqu, .slice o.fa o.fn o.fcap] 39)) := (Below.refl _ _).alloc (Nat.le_refl _) _
  have hl0 := rlast w (.cells #[.int .i64 4, .int .i64 o.on, .int .i64 o.a, .int .i64 o.b, .int .i64 o.c, .int .i32 o.v, .int .i64 o.te, .int .i64 o.tn, .int .i64 o.fs, .int .i64 o.fle, .int .i64 o.fla, .int .i64 o.fwi, .int .i64 o.fke, .int .i64 o.fqu, .slice o.fa o.fn o.fcap] 39)
  have hsz : (w.alloc (.cells #[.int .i64 4, .int .i64 o.on, .int .i64 o.a, .int .i64 o.b, .int .i64 o.c, .int .i32 o.v, .int .i64 o.te, .int .i64 o.tn, .int .i64 o.fs, .int .i64 o.fle, .int .i64 o.fla, .int .i64 o.fwi, .int .i64 o.fke, .int .i64 o.fqu, .slice o.fa o.fn o.fcap] 39)).heap.size = w.heap.size + 1 := rsize w _
  have hwX := (hb0.block wb hwl).trans hw
  have hc0 := ptr_at hps hpi
  have hcX := ((hb0.cell (p := ⟨gb, i, none⟩) hgl)).trans hc0
  have hgX := ((hb0.cell (p := ⟨po, 14, none⟩) hpo)).trans hgo
  have hin : (i : Int) < (ps.length : Int) := by omega
  have hne1 : ¬ (ps.length : Int) = 0 := by omega
  have HB := hide hb0
  have HPK := fun W => hide (hpk W)
  have z0 : (w.alloc (.cells #[.int .i64 4, .int .i64 o.on, .int .i64 o.a, .int .i64 o.b, .int .i64 o.c, .int .i32 o.v, .int .i64 o.te, .int .i64 o.tn, .int .i64 o.fs, .int .i64 o.fle, .int .i64 o.fla, .int .i64 o.fwi, .int .i64 o.fke, .int .i64 o.fqu, .slice o.fa o.fn o.fcap] 39)).cell? ⟨wb, 0, none⟩ = some (.slice (some ⟨gb, 0, none⟩) ps.length pcap) := by rw [rcell hwX]; rfl
  have y0 : (w.alloc (.cells #[.int .i64 4, .int .i64 o.on, .int .i64 o.a, .int .i64 o.b, .int .i64 o.c, .int .i32 o.v, .int .i64 o.te, .int .i64 o.tn, .int .i64 o.fs, .int .i64 o.fle, .int .i64 o.fla, .int .i64 o.fwi, .int .i64 o.fke, .int .i64 o.fqu, .slice o.fa o.fn o.fcap] 39)).cell? ⟨w.heap.size, 0, none⟩ = some (.int .i64 4) := by rw [rcell hl0]; rfl
  have y1 : (w.alloc (.cells #[.int .i64 4, .int .i64 o.on, .int .i64 o.a, .int .i64 o.b, .int .i64 o.c, .int .i32 o.v, .int .i64 o.te, .int .i64 o.tn, .int .i64 o.fs, .int .i64 o.fle, .int .i64 o.fla, .int .i64 o.fwi, .int .i64 o.fke, .int .i64 o.fqu, .slice o.fa o.fn o.fcap] 39)).cell? ⟨w.heap.size, 1, none⟩ = some (.int .i64 o.on) := by rw [rcell hl0]; rfl
  have HL := hide hl0
  have HWX : Hid ((w.alloc (.cells #[.int .i64 4, .int .i64 o.on, .int .i64 o.a, .int .i64 o.b, .int .i64 o.c, .int .i32 o.v, .int .i64 o.te, .int .i64 o.tn, .int .i64 o.fs, .int .i64 o.fle, .int .i64 o.fla, .int .i64 o.fwi, .int .i64 o.fke, .int .i64 o.fqu, .slice o.fa o.fn o.fcap] 39)).heap.size = w.heap.size + 1) := hsz
  have HAA := hide HA
  clear HA
  clear hps hl0 hb0 hsz hw hwX hpk hgo hc0 hpi hil
  go_enter Tryz.func7, Tryz.ntmps7
  go_wp2_with fail
  have q1 : wb < w.heap.size + 1 := by omega
  have q2 : gb < w.heap.size + 1 := by omega
  have q3 : po < w.heap.size + 1 := by omega
  have q4 : w.heap.size < w.heap.size + 1 := by omega
  clear hwl hgl hpo
  generalize (w.alloc (.cells #[.int .i64 4, .int .i64 o.on, .int .i64 o.a, .int .i64 o.b, .int .i64 o.c, .int .i32 o.v, .int .i64 o.te, .int .i64 o.tn, .int .i64 o.fs, .int .i64 o.fle, .int .i64 o.fla, .int .i64 o.fwi, .int .i64 o.fke, .int .i64 o.fqu, .slice o.fa o.fn o.fcap] 39)) = X at *
  generalize w.heap.size + 1 = N at *
  have hne : Nonempty (Later N X) := Later.some _ _
  have hlc := fun (u : Later N X) b o h => u.cell b o h
  refine wp_region_later N (by kernel_rfl) (by kernel_rfl) ?_
  repeat (go_big_quiet_step (first | (go_at_call 18; exact Calls.later_same (unhide (HPK _)))))
  refine wpQuiet_nil ?_
  rintro ⟨w1, hb1⟩
  clear hlc hne
  have hgb := (hb1.cell (p := ⟨po, 14, none⟩) q3).trans hgX
  have hX1 := (hb1.block w.heap.size q4).trans (unhide HL)
  have hbw : Below w.heap.size w w1 := (unhide HB).trans (hb1.mono (Nat.le_of_lt q4))
  have a0 : w1.cell? ⟨w.heap.size, 0, none⟩ = some (.int .i64 4) := by rw [rcell hX1]; rfl
  have a1 : w1.cell? ⟨w.heap.size, 1, none⟩ = some (.int .i64 o.on) := by rw [rcell hX1]; rfl
  have a2 : w1.cell? ⟨w.heap.size, 2, none⟩ = some (.int .i64 o.a) := by rw [rcell hX1]; rfl
  have a3 : w1.cell? ⟨w.heap.size, 3, none⟩ = some (.int .i64 o.b) := by rw [rcell hX1]; rfl
  have a4 : w1.cell? ⟨w.heap.size, 4, none⟩ = some (.int .i64 o.c) := by rw [rcell hX1]; rfl
  have a5 : w1.cell? ⟨w.heap.size, 5, none⟩ = some (.int .i32 o.v) := by rw [rcell hX1]; rfl
  have a6 : w1.cell? ⟨w.heap.size, 6, none⟩ = some (.int .i64 o.te) := by rw [rcell hX1]; rfl
  have a7 : w1.cell? ⟨w.heap.size, 7, none⟩ = some (.int .i64 o.tn) := by rw [rcell hX1]; rfl
  have a8 : w1.cell? ⟨w.heap.size, 8, none⟩ = some (.int .i64 o.fs) := by rw [rcell hX1]; rfl
  have a9 : w1.cell? ⟨w.heap.size, 9, none⟩ = some (.int .i64 o.fle) := by rw [rcell hX1]; rfl
  have a10 : w1.cell? ⟨w.heap.size, 10, none⟩ = some (.int .i64 o.fla) := by rw [rcell hX1]; rfl
  have a11 : w1.cell? ⟨w.heap.size, 11, none⟩ = some (.int .i64 o.fwi) := by rw [rcell hX1]; rfl
  have a12 : w1.cell? ⟨w.heap.size, 12, none⟩ = some (.int .i64 o.fke) := by rw [rcell hX1]; rfl
  have a13 : w1.cell? ⟨w.heap.size, 13, none⟩ = some (.int .i64 o.fqu) := by rw [rcell hX1]; rfl
  have a14 : w1.cell? ⟨w.heap.size, 14, none⟩ = some (.slice o.fa o.fn o.fcap) := by rw [rcell hX1]; rfl
  have HAW := hide (unhide HAA w1 hbw)
  dsimp only
  clear HAA hX1 hgX hcX y0 y1 z0 hb1 hbw q1 q2 q3 q4
  go_wp2_with (first | (go_at_call 20; refine (unhide HAW).mono ?_; rintro e w' ⟨rfl, hR⟩) | fail)
  go_ret
  exact ⟨rfl, hR⟩

set_option maxRecDepth 8000 in
set_option maxHeartbeats 2000000 in
theorem stp_5 {B : Nat} {w : World} {wb : Nat} {pv lv : Value} {ps : List Nat} (hw : w.heap[wb]? = some (.cells #[pv, lv] 29 (0, 0))) (hps : w.ownsRow B 50 1 pv ps.length (ps.map (fun q => .pointer (some ⟨q, 0, none⟩)))) {i po : Nat} (hpi : ps[i]? = some po) (hpo : po < w.heap.size) (hgo : w.cell? ⟨po, 14, none⟩ = some (.bool false)) (o : Ops) (hpk : ∀ w : World, Calls Tryz.prog 18 #[.int .i64 o.on, .int .i64 ps.length] w fun e w' => e = .returned (.int .i64 i) ∧ w' = w) (R : World → Prop)
    (HA : ∀ w4, Below w.heap.size w w4 → Calls Tryz.prog 20 #[.pointer (some ⟨wb, 0, none⟩), .pointer (some ⟨po, 0, none⟩), .agg #[.int .i64 5, .int .i64 o.on, .int .i64 o.a, .int .i64 o.b, .int .i64 o.c, .int .i32 o.v, .int .i64 o.te, .int .i64 o.tn, .int .i64 o.fs, .int .i64 o.fle, .int .i64 o.fla, .int .i64 o.fwi, .int .i64 o.fke, .int .i64 o.fqu, .slice o.fa o.fn o.fcap]] w4 fun e w' => e = .returned (.bool true) ∧ R w') :
    Calls Tryz.prog 7 #[.pointer (some ⟨wb, 0, none⟩), .agg #[.int .i64 5, .int .i64 o.on, .int .i64 o.a, .int .i64 o.b, .int .i64 o.c, .int .i32 o.v, .int .i64 o.te, .int .i64 o.tn, .int .i64 o.fs, .int .i64 o.fle, .int .i64 o.fla, .int .i64 o.fwi, .int .i64 o.fke, .int .i64 o.fqu, .slice o.fa o.fn o.fcap]] w fun e w' => e = .returned (.bool true) ∧ R w' := by
  obtain ⟨pa, pcap, rfl⟩ := row_slice hps
  have hil : i < ps.length := (List.getElem?_eq_some_iff.1 hpi).1
  obtain ⟨gb, gcap, hgv, _, hgl⟩ := hps.form (by omega)
  cases hgv
  have hwl := lt_of_heap hw
  have hb0 : Below w.heap.size w (w.alloc (.cells #[.int .i64 5, .int .i64 o.on, .int .i64 o.a, .int .i64 o.b, .int .i64 o.c, .int .i32 o.v, .int .i64 o.te, .int .i64 o.tn, .int .i64 o.fs, .int .i64 o.fle, .int .i64 o.fla, .int .i64 o.fwi, .int .i64 o.fke, .int .i64 o.fqu, .slice o.fa o.fn o.fcap] 39)) := (Below.refl _ _).alloc (Nat.le_refl _) _
  have hl0 := rlast w (.cells #[.int .i64 5, .int .i64 o.on, .int .i64 o.a, .int .i64 o.b, .int .i64 o.c, .int .i32 o.v, .int .i64 o.te, .int .i64 o.tn, .int .i64 o.fs, .int .i64 o.fle, .int .i64 o.fla, .int .i64 o.fwi, .int .i64 o.fke, .int .i64 o.fqu, .slice o.fa o.fn o.fcap] 39)
  have hsz : (w.alloc (.cells #[.int .i64 5, .int .i64 o.on, .int .i64 o.a, .int .i64 o.b, .int .i64 o.c, .int .i32 o.v, .int .i64 o.te, .int .i64 o.tn, .int .i64 o.fs, .int .i64 o.fle, .int .i64 o.fla, .int .i64 o.fwi, .int .i64 o.fke, .int .i64 o.fqu, .slice o.fa o.fn o.fcap] 39)).heap.size = w.heap.size + 1 := rsize w _
  have hwX := (hb0.block wb hwl).trans hw
  have hc0 := ptr_at hps hpi
  have hcX := ((hb0.cell (p := ⟨gb, i, none⟩) hgl)).trans hc0
  have hgX := ((hb0.cell (p := ⟨po, 14, none⟩) hpo)).trans hgo
  have hin : (i : Int) < (ps.length : Int) := by omega
  have hne1 : ¬ (ps.length : Int) = 0 := by omega
  have HB := hide hb0
  have HPK := fun W => hide (hpk W)
  have z0 : (w.alloc (.cells #[.int .i64 5, .int .i64 o.on, .int .i64 o.a, .int .i64 o.b, .int .i64 o.c, .int .i32 o.v, .int .i64 o.te, .int .i64 o.tn, .int .i64 o.fs, .int .i64 o.fle, .int .i64 o.fla, .int .i64 o.fwi, .int .i64 o.fke, .int .i64 o.fqu, .slice o.fa o.fn o.fcap] 39)).cell? ⟨wb, 0, none⟩ = some (.slice (some ⟨gb, 0, none⟩) ps.length pcap) := by rw [rcell hwX]; rfl
  have y0 : (w.alloc (.cells #[.int .i64 5, .int .i64 o.on, .int .i64 o.a, .int .i64 o.b, .int .i64 o.c, .int .i32 o.v, .int .i64 o.te, .int .i64 o.tn, .int .i64 o.fs, .int .i64 o.fle, .int .i64 o.fla, .int .i64 o.fwi, .int .i64 o.fke, .int .i64 o.fqu, .slice o.fa o.fn o.fcap] 39)).cell? ⟨w.heap.size, 0, none⟩ = some (.int .i64 5) := by rw [rcell hl0]; rfl
  have y1 : (w.alloc (.cells #[.int .i64 5, .int .i64 o.on, .int .i64 o.a, .int .i64 o.b, .int .i64 o.c, .int .i32 o.v, .int .i64 o.te, .int .i64 o.tn, .int .i64 o.fs, .int .i64 o.fle, .int .i64 o.fla, .int .i64 o.fwi, .int .i64 o.fke, .int .i64 o.fqu, .slice o.fa o.fn o.fcap] 39)).cell? ⟨w.heap.size, 1, none⟩ = some (.int .i64 o.on) := by rw [rcell hl0]; rfl
  have HL := hide hl0
  have HWX : Hid ((w.alloc (.cells #[.int .i64 5, .int .i64 o.on, .int .i64 o.a, .int .i64 o.b, .int .i64 o.c, .int .i32 o.v, .int .i64 o.te, .int .i64 o.tn, .int .i64 o.fs, .int .i64 o.fle, .int .i64 o.fla, .int .i64 o.fwi, .int .i64 o.fke, .int .i64 o.fqu, .slice o.fa o.fn o.fcap] 39)).heap.size = w.heap.size + 1) := hsz
  have HAA := hide HA
  clear HA
  clear hps hl0 hb0 hsz hw hwX hpk hgo hc0 hpi hil
  go_enter Tryz.func7, Tryz.ntmps7
  go_wp2_with fail
  have q1 : wb < w.heap.size + 1 := by omega
  have q2 : gb < w.heap.size + 1 := by omega
  have q3 : po < w.heap.size + 1 := by omega
  have q4 : w.heap.size < w.heap.size + 1 := by omega
  clear hwl hgl hpo
  generalize (w.alloc (.cells #[.int .i64 5, .int .i64 o.on, .int .i64 o.a, .int .i64 o.b, .int .i64 o.c, .int .i32 o.v, .int .i64 o.te, .int .i64 o.tn, .int .i64 o.fs, .int .i64 o.fle, .int .i64 o.fla, .int .i64 o.fwi, .int .i64 o.fke, .int .i64 o.fqu, .slice o.fa o.fn o.fcap] 39)) = X at *
  generalize w.heap.size + 1 = N at *
  have hne : Nonempty (Later N X) := Later.some _ _
  have hlc := fun (u : Later N X) b o h => u.cell b o h
  refine wp_region_later N (by kernel_rfl) (by kernel_rfl) ?_
  repeat (go_big_quiet_step (first | (go_at_call 18; exact Calls.later_same (unhide (HPK _)))))
  refine wpQuiet_nil ?_
  rintro ⟨w1, hb1⟩
  clear hlc hne
  have hgb := (hb1.cell (p := ⟨po, 14, none⟩) q3).trans hgX
  have hX1 := (hb1.block w.heap.size q4).trans (unhide HL)
  have hbw : Below w.heap.size w w1 := (unhide HB).trans (hb1.mono (Nat.le_of_lt q4))
  have a0 : w1.cell? ⟨w.heap.size, 0, none⟩ = some (.int .i64 5) := by rw [rcell hX1]; rfl
  have a1 : w1.cell? ⟨w.heap.size, 1, none⟩ = some (.int .i64 o.on) := by rw [rcell hX1]; rfl
  have a2 : w1.cell? ⟨w.heap.size, 2, none⟩ = some (.int .i64 o.a) := by rw [rcell hX1]; rfl
  have a3 : w1.cell? ⟨w.heap.size, 3, none⟩ = some (.int .i64 o.b) := by rw [rcell hX1]; rfl
  have a4 : w1.cell? ⟨w.heap.size, 4, none⟩ = some (.int .i64 o.c) := by rw [rcell hX1]; rfl
  have a5 : w1.cell? ⟨w.heap.size, 5, none⟩ = some (.int .i32 o.v) := by rw [rcell hX1]; rfl
  have a6 : w1.cell? ⟨w.heap.size, 6, none⟩ = some (.int .i64 o.te) := by rw [rcell hX1]; rfl
  have a7 : w1.cell? ⟨w.heap.size, 7, none⟩ = some (.int .i64 o.tn) := by rw [rcell hX1]; rfl
  have a8 : w1.cell? ⟨w.heap.size, 8, none⟩ = some (.int .i64 o.fs) := by rw [rcell hX1]; rfl
  have a9 : w1.cell? ⟨w.heap.size, 9, none⟩ = some (.int .i64 o.fle) := by rw [rcell hX1]; rfl
  have a10 : w1.cell? ⟨w.heap.size, 10, none⟩ = some (.int .i64 o.fla) := by rw [rcell hX1]; rfl
  have a11 : w1.cell? ⟨w.heap.size, 11, none⟩ = some (.int .i64 o.fwi) := by rw [rcell hX1]; rfl
  have a12 : w1.cell? ⟨w.heap.size, 12, none⟩ = some (.int .i64 o.fke) := by rw [rcell hX1]; rfl
  have a13 : w1.cell? ⟨w.heap.size, 13, none⟩ = some (.int .i64 o.fqu) := by rw [rcell hX1]; rfl
  have a14 : w1.cell? ⟨w.heap.size, 14, none⟩ = some (.slice o.fa o.fn o.fcap) := by rw [rcell hX1]; rfl
  have HAW := hide (unhide HAA w1 hbw)
  dsimp only
  clear HAA hX1 hgX hcX y0 y1 z0 hb1 hbw q1 q2 q3 q4
  go_wp2_with (first | (go_at_call 20; refine (unhide HAW).mono ?_; rintro e w' ⟨rfl, hR⟩) | fail)
  go_ret
  exact ⟨rfl, hR⟩

set_option maxRecDepth 8000 in
set_option maxHeartbeats 2000000 in
theorem stp_other {B : Nat} {w : World} {wb : Nat} {pv lv : Value} {ps : List Nat} (hw : w.heap[wb]? = some (.cells #[pv, lv] 29 (0, 0))) (hps : w.ownsRow B 50 1 pv ps.length (ps.map (fun q => .pointer (some ⟨q, 0, none⟩)))) {i po : Nat} (hpi : ps[i]? = some po) (hpo : po < w.heap.size) (hgo : w.cell? ⟨po, 14, none⟩ = some (.bool false)) (o : Ops) (hpk : ∀ w : World, Calls Tryz.prog 18 #[.int .i64 o.on, .int .i64 ps.length] w fun e w' => e = .returned (.int .i64 i) ∧ w' = w) (kk : Int) (hkk : kk ≤ 0) :
    Calls Tryz.prog 7 #[.pointer (some ⟨wb, 0, none⟩), .agg #[.int .i64 kk, .int .i64 o.on, .int .i64 o.a, .int .i64 o.b, .int .i64 o.c, .int .i32 o.v, .int .i64 o.te, .int .i64 o.tn, .int .i64 o.fs, .int .i64 o.fle, .int .i64 o.fla, .int .i64 o.fwi, .int .i64 o.fke, .int .i64 o.fqu, .slice o.fa o.fn o.fcap]] w fun e w' => e = .returned (.bool true) ∧ Below w.heap.size w w' := by
  obtain ⟨pa, pcap, rfl⟩ := row_slice hps
  have hil : i < ps.length := (List.getElem?_eq_some_iff.1 hpi).1
  obtain ⟨gb, gcap, hgv, _, hgl⟩ := hps.form (by omega)
  cases hgv
  have hwl := lt_of_heap hw
  have hb0 : Below w.heap.size w (w.alloc (.cells #[.int .i64 kk, .int .i64 o.on, .int .i64 o.a, .int .i64 o.b, .int .i64 o.c, .int .i32 o.v, .int .i64 o.te, .int .i64 o.tn, .int .i64 o.fs, .int .i64 o.fle, .int .i64 o.fla, .int .i64 o.fwi, .int .i64 o.fke, .int .i64 o.fqu, .slice o.fa o.fn o.fcap] 39)) := (Below.refl _ _).alloc (Nat.le_refl _) _
  have hl0 := rlast w (.cells #[.int .i64 kk, .int .i64 o.on, .int .i64 o.a, .int .i64 o.b, .int .i64 o.c, .int .i32 o.v, .int .i64 o.te, .int .i64 o.tn, .int .i64 o.fs, .int .i64 o.fle, .int .i64 o.fla, .int .i64 o.fwi, .int .i64 o.fke, .int .i64 o.fqu, .slice o.fa o.fn o.fcap] 39)
  have hsz : (w.alloc (.cells #[.int .i64 kk, .int .i64 o.on, .int .i64 o.a, .int .i64 o.b, .int .i64 o.c, .int .i32 o.v, .int .i64 o.te, .int .i64 o.tn, .int .i64 o.fs, .int .i64 o.fle, .int .i64 o.fla, .int .i64 o.fwi, .int .i64 o.fke, .int .i64 o.fqu, .slice o.fa o.fn o.fcap] 39)).heap.size = w.heap.size + 1 := rsize w _
  have hwX := (hb0.block wb hwl).trans hw
  have hc0 := ptr_at hps hpi
  have hcX := ((hb0.cell (p := ⟨gb, i, none⟩) hgl)).trans hc0
  have hgX := ((hb0.cell (p := ⟨po, 14, none⟩) hpo)).trans hgo
  have hin : (i : Int) < (ps.length : Int) := by omega
  have hne1 : ¬ (ps.length : Int) = 0 := by omega
  have HB := hide hb0
  have HPK := fun W => hide (hpk W)
  have z0 : (w.alloc (.cells #[.int .i64 kk, .int .i64 o.on, .int .i64 o.a, .int .i64 o.b, .int .i64 o.c, .int .i32 o.v, .int .i64 o.te, .int .i64 o.tn, .int .i64 o.fs, .int .i64 o.fle, .int .i64 o.fla, .int .i64 o.fwi, .int .i64 o.fke, .int .i64 o.fqu, .slice o.fa o.fn o.fcap] 39)).cell? ⟨wb, 0, none⟩ = some (.slice (some ⟨gb, 0, none⟩) ps.length pcap) := by rw [rcell hwX]; rfl
  have y0 : (w.alloc (.cells #[.int .i64 kk, .int .i64 o.on, .int .i64 o.a, .int .i64 o.b, .int .i64 o.c, .int .i32 o.v, .int .i64 o.te, .int .i64 o.tn, .int .i64 o.fs, .int .i64 o.fle, .int .i64 o.fla, .int .i64 o.fwi, .int .i64 o.fke, .int .i64 o.fqu, .slice o.fa o.fn o.fcap] 39)).cell? ⟨w.heap.size, 0, none⟩ = some (.int .i64 kk) := by rw [rcell hl0]; rfl
  have y1 : (w.alloc (.cells #[.int .i64 kk, .int .i64 o.on, .int .i64 o.a, .int .i64 o.b, .int .i64 o.c, .int .i32 o.v, .int .i64 o.te, .int .i64 o.tn, .int .i64 o.fs, .int .i64 o.fle, .int .i64 o.fla, .int .i64 o.fwi, .int .i64 o.fke, .int .i64 o.fqu, .slice o.fa o.fn o.fcap] 39)).cell? ⟨w.heap.size, 1, none⟩ = some (.int .i64 o.on) := by rw [rcell hl0]; rfl
  have HL := hide hl0
  have HWX : Hid ((w.alloc (.cells #[.int .i64 kk, .int .i64 o.on, .int .i64 o.a, .int .i64 o.b, .int .i64 o.c, .int .i32 o.v, .int .i64 o.te, .int .i64 o.tn, .int .i64 o.fs, .int .i64 o.fle, .int .i64 o.fla, .int .i64 o.fwi, .int .i64 o.fke, .int .i64 o.fqu, .slice o.fa o.fn o.fcap] 39)).heap.size = w.heap.size + 1) := hsz
  have k1 : ¬ kk = 1 := by omega
  have k13 : ¬ kk = 13 := by omega
  clear hps hl0 hb0 hsz hw hwX hpk hgo hc0 hpi hil
  go_enter Tryz.func7, Tryz.ntmps7
  go_wp2_with fail
  have q1 : wb < w.heap.size + 1 := by omega
  have q2 : gb < w.heap.size + 1 := by omega
  have q3 : po < w.heap.size + 1 := by omega
  have q4 : w.heap.size < w.heap.size + 1 := by omega
  clear hwl hgl hpo
  generalize (w.alloc (.cells #[.int .i64 kk, .int .i64 o.on, .int .i64 o.a, .int .i64 o.b, .int .i64 o.c, .int .i32 o.v, .int .i64 o.te, .int .i64 o.tn, .int .i64 o.fs, .int .i64 o.fle, .int .i64 o.fla, .int .i64 o.fwi, .int .i64 o.fke, .int .i64 o.fqu, .slice o.fa o.fn o.fcap] 39)) = X at *
  generalize w.heap.size + 1 = N at *
  have hne : Nonempty (Later N X) := Later.some _ _
  have hlc := fun (u : Later N X) b o h => u.cell b o h
  refine wp_region_later N (by kernel_rfl) (by kernel_rfl) ?_
  repeat (go_big_quiet_step (first | (go_at_call 18; exact Calls.later_same (unhide (HPK _)))))
  refine wpQuiet_nil ?_
  rintro ⟨w1, hb1⟩
  clear hlc hne
  have hgb := (hb1.cell (p := ⟨po, 14, none⟩) q3).trans hgX
  have hX1 := (hb1.block w.heap.size q4).trans (unhide HL)
  have hbw : Below w.heap.size w w1 := (unhide HB).trans (hb1.mono (Nat.le_of_lt q4))
  have a0 : w1.cell? ⟨w.heap.size, 0, none⟩ = some (.int .i64 kk) := by rw [rcell hX1]; rfl
  have k2 : ¬ kk = 2 := by omega
  have k3 : ¬ kk = 3 := by omega
  have k4 : ¬ kk = 4 := by omega
  have k5 : ¬ kk = 5 := by omega
  have k6 : ¬ kk = 6 := by omega
  have k7 : ¬ kk = 7 := by omega
  have k8 : ¬ kk = 8 := by omega
  have k9 : ¬ kk = 9 := by omega
  have k10 : ¬ kk = 10 := by omega
  have k11 : ¬ kk = 11 := by omega
  have k12 : ¬ kk = 12 := by omega
  dsimp only
  clear hX1 hgX hcX y0 y1 z0 hb1 q1 q2 q3 q4 hkk
  go_wp2_with fail
  go_ret
  exact ⟨rfl, hbw⟩
end Go.Proofs.YtgadceofpbfleaaGreat
