import Derived.Test.YtpbimdkclnekeaaGreatQStp7
import Derived.Test.YtpbimdkclnekeaaGreatQAwk1
import Derived.Test.YtpbimdkclnekeaaGreatQKop0

namespace Go.Proofs.YtpbimdkclnekeaaGreat
open Go.RowKit Go.Maps Go.Shelf
set_option linter.unusedVariables false
theorem kcount_bound (k : Int) : ∀ L : LV, 0 ≤ countL L k ∧ countL L k ≤ L.length
  | [] => by simp [countL, sumI]
  | p :: L => by
    have ih := kcount_bound k L
    unfold countL at *
    simp only [List.map_cons, sumI, List.length_cons]
    have h2 : 0 ≤ isSt k p.2 ∧ isSt k p.2 ≤ 1 := by unfold isSt; split <;> omega
    omega
theorem region_still_d {P : Program} {id : Nat} {Q : Exit → Act → World → Prop} {a : Act} {w : World} {l : List Oper} (hm : P.follows .mixedOrders = true) (hB : Region.lexB .any l.toArray = true) (h : wpStill P l.toArray w.drew (fun a' => Q .normal a' w.drew) l a) : (Code.region id l.toArray true).wp P Q a w := wp_region_still_lit hm hB h
theorem still_skip {P : Program} {ops : Array Oper} {w : World} {Q : Act → Prop} {o : Oper} {rest : List Oper} {a : Act} (h : Region.wanted o (yielded ops a.tmps) = false) (hr : wpStill P ops w Q rest (a.put o.dst undef)) : wpStill P ops w Q (o :: rest) a := by
  unfold wpStill
  rw [h]
  exact hr
theorem Bel.low {B : Nat} {w a : World} (h : Bel B w a) : Below B w a := h.bel
set_option maxRecDepth 20000 in
set_option maxHeartbeats 8000000 in
theorem bounded_any (s le la wi ke qu : Int) (a : Option Addr) (n cap : Nat) (F0 W0 K0 : Nat → Int) (sa : Option Addr) (n2 cap2 : Nat) (G : Nat → KStep) (w : World) (h1 : -9223372036854775808 ≤ s ∧ s ≤ 9223372036854775807) (h2 : -9223372036854775808 ≤ le ∧ le ≤ 9223372036854775807) (h3 : -9223372036854775808 ≤ la ∧ la ≤ 9223372036854775807) (h4 : -9223372036854775808 ≤ wi ∧ wi ≤ 9223372036854775807) (h5 : -9223372036854775808 ≤ ke ∧ ke ≤ 9223372036854775807) (h6 : -9223372036854775808 ≤ qu ∧ qu ≤ 9223372036854775807) (hts : TS w a n F0 W0 K0) (hn : n ≤ 140737488355328) (hF : ∀ i, i < n → -9223372036854775808 ≤ F0 i ∧ F0 i ≤ 9223372036854775807) (hW : ∀ i, i < n → -9223372036854775808 ≤ W0 i ∧ W0 i ≤ 9223372036854775807) (hK : ∀ i, i < n → -9223372036854775808 ≤ K0 i ∧ K0 i ≤ 9223372036854775807) (hks : KS w sa n2 G) (hn2 : n2 < 4398046511104) (hG : ∀ i, i < n2 → (G i).fits) :
    Calls Tryz.prog 6 #[.agg #[.int .i64 s, .int .i64 le, .int .i64 la, .int .i64 wi, .int .i64 ke, .int .i64 qu, .slice a n cap], .slice sa n2 cap2] w fun e w' => e = .returned (.bool true) ∧ Below w.heap.size w w' := by
  have hb0 : Below w.heap.size w (w.alloc (.cells #[.int .i64 s, .int .i64 le, .int .i64 la, .int .i64 wi, .int .i64 ke, .int .i64 qu, .slice a n cap] 27)) := (Below.refl _ _).alloc (Nat.le_refl _) _
  have q0 := rlast w (.cells #[.int .i64 s, .int .i64 le, .int .i64 la, .int .i64 wi, .int .i64 ke, .int .i64 qu, .slice a n cap] 27)
  have r0 : (w.alloc (.cells #[.int .i64 s, .int .i64 le, .int .i64 la, .int .i64 wi, .int .i64 ke, .int .i64 qu, .slice a n cap] 27)).cell? ⟨w.heap.size, 0, none⟩ = some (.int .i64 s) := by rw [rcell q0]; rfl
  have r1 : (w.alloc (.cells #[.int .i64 s, .int .i64 le, .int .i64 la, .int .i64 wi, .int .i64 ke, .int .i64 qu, .slice a n cap] 27)).cell? ⟨w.heap.size, 1, none⟩ = some (.int .i64 le) := by rw [rcell q0]; rfl
  have r2 : (w.alloc (.cells #[.int .i64 s, .int .i64 le, .int .i64 la, .int .i64 wi, .int .i64 ke, .int .i64 qu, .slice a n cap] 27)).cell? ⟨w.heap.size, 2, none⟩ = some (.int .i64 la) := by rw [rcell q0]; rfl
  have r3 : (w.alloc (.cells #[.int .i64 s, .int .i64 le, .int .i64 la, .int .i64 wi, .int .i64 ke, .int .i64 qu, .slice a n cap] 27)).cell? ⟨w.heap.size, 3, none⟩ = some (.int .i64 wi) := by rw [rcell q0]; rfl
  have r4 : (w.alloc (.cells #[.int .i64 s, .int .i64 le, .int .i64 la, .int .i64 wi, .int .i64 ke, .int .i64 qu, .slice a n cap] 27)).cell? ⟨w.heap.size, 4, none⟩ = some (.int .i64 ke) := by rw [rcell q0]; rfl
  have r5 : (w.alloc (.cells #[.int .i64 s, .int .i64 le, .int .i64 la, .int .i64 wi, .int .i64 ke, .int .i64 qu, .slice a n cap] 27)).cell? ⟨w.heap.size, 5, none⟩ = some (.int .i64 qu) := by rw [rcell q0]; rfl
  have r6 : (w.alloc (.cells #[.int .i64 s, .int .i64 le, .int .i64 la, .int .i64 wi, .int .i64 ke, .int .i64 qu, .slice a n cap] 27)).cell? ⟨w.heap.size, 6, none⟩ = some (.slice a n cap) := by rw [rcell q0]; rfl
  have hrl := lt_of_heap q0
  have HOP := hide (opened_any s le la wi ke qu a n cap F0 W0 K0 (w.alloc (.cells #[.int .i64 s, .int .i64 le, .int .i64 la, .int .i64 wi, .int .i64 ke, .int .i64 qu, .slice a n cap] 27)) h1 h2 h3 h4 h5 h6 (hts.below hb0) hn hF hW hK)
  have HB0 := hide hb0
  have HKS := hide hks
  have HG := hide hG
  clear hb0 q0 h1 h2 h3 h4 h5 h6 hts hF hW hK hks hG
  go_enter Tryz.func6, Tryz.ntmps6
  go_wp2_with fail
  generalize (w.alloc (.cells #[.int .i64 s, .int .i64 le, .int .i64 la, .int .i64 wi, .int .i64 ke, .int .i64 qu, .slice a n cap] 27)) = X at *
  refine (unhide HOP).mono ?_
  rintro e w1 ⟨c, p, hc, hf, rfl, hsh, hb1⟩
  have hXB : Below w.heap.size w w1 := (unhide HB0).trans (hb1.mono (unhide HB0).size)
  have HS1 := hide hsh
  have HB1 := hide hXB
  have hep : i64B 1 := by unfold i64B; omega
  have hxw : w.heap.size ≤ X.heap.size := (unhide HB0).size
  clear hsh hb1 hXB HOP r0 r1 r2 r3 r4 r5 r6
  go_wp2_with fail
  go_loopw [6, 7, 8, 9, 10] (fun y _ _ _ _ wr => ∃ (t : Nat) (m : MS) (ns : List Nm), t ≤ n2 ∧ y = .int .i64 t ∧ Shop wr X.heap.size p c 1 m ns t ∧ Below w.heap.size w wr) (fun y _ _ _ _ _ => n2 - (intOf y).toNat)
  case atStart => exact ⟨0, _, [], Nat.zero_le _, rfl, unhide HS1, unhide HB1⟩
  case round =>
    obtain ⟨t, m, ns, htn, rfl, hsh, hbw⟩ := hrel
    have hsz := hsh.size
    obtain ⟨s0, k0, hp0, hS0, hk0, ho0, hkj0, hnj0⟩ := hsh
    have hsh : Shop wr X.heap.size p c 1 m ns t := ⟨s0, k0, hp0, hS0, hk0, ho0, hkj0, hnj0⟩
    have hu0 := ho0.ok.seg.u0 hc
    have hl0 := ho0.ok.seg.len400 hc
    have HST1 := hide (mstats_any hS0.mill hc ⟨hu0.1, by omega⟩ (by omega))
    have x0 := (hS0.cells).1
    have xl := hS0.lt
    rw [hp0] at x0 xl
    have hni : (n2 : Int) ≤ 4398046511104 := by omega
    by_cases hlt : t < n2
    · have hlti : (t : Int) < n2 := by omega
      obtain ⟨b, off, hsa, hbz, hcl⟩ := unhide HKS (by omega)
      subst hsa
      obtain ⟨g0, g1, g2, g3⟩ := hcl t hlt
      have hfit := unhide HG t hlt
      generalize G t = o at *
      obtain ⟨kd, oa, ob, ov⟩ := o
      obtain ⟨fa, fb, fv⟩ := hfit
      dsimp only at g0 g1 g2 g3 fa fb fv
      have HSH0 := hide hsh
      have HS0 := hide hS0
      have HO0 := hide ho0
      have HBW := hide hbw
      clear hcl hsh hS0 ho0 hbw
      go_wp2_with fail
      refine (unhide HST1).mono ?_
      rintro e V1 ⟨rfl, hb1⟩
      have hA1 := hb1.alloc hb1.size (.cells #[.int .i64 m.now, .int .i64 (usedL m.L), .int .i64 (tightI (tightB (usedL m.L) c.qu)), .int .i64 1, .int .i64 (countL m.L 1), .int .i64 (countL m.L 2), .int .i64 (countL m.L 3), .int .i64 m.Gl.length] 37)
      have hZ1 := (unhide HSH0).later hA1
      have hSZ := (unhide HS0).later hA1
      have hbZ := (unhide HBW).trans (hA1.mono (unhide HBW).size)
      have HWB := hide (rlast V1 (.cells #[.int .i64 m.now, .int .i64 (usedL m.L), .int .i64 (tightI (tightB (usedL m.L) c.qu)), .int .i64 1, .int .i64 (countL m.L 1), .int .i64 (countL m.L 2), .int .i64 (countL m.L 3), .int .i64 m.Gl.length] 37))
      have y0 := (hbZ.cell (p := ⟨b, off + t * 4, none⟩) hbz).trans g0
      have y1 := (hbZ.cell (p := ⟨b, off + t * 4 + 1, none⟩) hbz).trans g1
      have y2 := (hbZ.cell (p := ⟨b, off + t * 4 + 2, none⟩) hbz).trans g2
      have y3 := (hbZ.cell (p := ⟨b, off + t * 4 + 3, none⟩) hbz).trans g3
      have ybz := Nat.lt_of_lt_of_le hbz hbZ.size
      obtain ⟨na, nc, hna⟩ := row_slice hSZ.nrow
      have y10 := (hSZ.cells).2.2.2.2.2.2.2.1
      rw [hna, hp0] at y10
      have yl := hSZ.lt
      rw [hp0] at yl
      have HZ1 := hide hZ1
      have HBZ1 := hide hbZ
      have HSTEP := hide (sstep_any hZ1 hc hf hep kd oa ob ov fa fb fv (by omega))
      clear hb1 hA1 hZ1 hSZ hbZ hna x0 xl HST1 HSH0 HBW
      generalize hwb : V1.heap.size = wb at *
      go_wp2_with fail
      generalize (V1.alloc (.cells #[.int .i64 m.now, .int .i64 (usedL m.L), .int .i64 (tightI (tightB (usedL m.L) c.qu)), .int .i64 1, .int .i64 (countL m.L 1), .int .i64 (countL m.L 2), .int .i64 (countL m.L 3), .int .i64 m.Gl.length] 37)) = Z at *
      refine (unhide HSTEP).mono ?_
      rintro e V2 ⟨rfl, hP⟩
      obtain ⟨m1, m', ns', hA, hA2, hSh, hBel, hC1, hC2⟩ := hP
      have HSH2 := hide hSh
      obtain ⟨s2, k2, hp2, hS2, hk2, ho2, hkj2, hnj2⟩ := hSh
      have hu2 := ho2.ok.seg.u0 hc
      have hl2 := ho2.ok.seg.len400 hc
      have hq2 : usedL m'.L ≤ c.qu := ho2.ok.seg.used
      have hn42 := ho2.ok.now
      have HST2 := hide (mstats_any hS2.mill hc ⟨hu2.1, by omega⟩ (by omega))
      have v0 := (hS2.cells).1
      have vl := hS2.lt
      rw [hp2] at v0 vl
      have HS2 := hide hS2
      have HWB2 := hide (hBel.stk _ _ _ (unhide HWB))
      have HB2 := hide ((unhide HBZ1).trans (hBel.bel.mono hxw))
      clear hS2 hBel hA hA2 HSTEP y0 y1 y2 y3 y10 yl
      go_wp2_with fail
      refine (unhide HST2).mono ?_
      rintro e V3 ⟨rfl, hb3⟩
      have hA3 := hb3.alloc hb3.size (.cells #[.int .i64 m'.now, .int .i64 (usedL m'.L), .int .i64 (tightI (tightB (usedL m'.L) c.qu)), .int .i64 1, .int .i64 (countL m'.L 1), .int .i64 (countL m'.L 2), .int .i64 (countL m'.L 3), .int .i64 m'.Gl.length] 37)
      have hS3 := (unhide HS2).later hA3
      obtain ⟨na2, nc2, hna2⟩ := row_slice hS3.nrow
      obtain ⟨ca, cc, hca⟩ := row_slice hS3.crow
      obtain ⟨-, -, -, -, z7, z8, z9, z10, -, -⟩ := hS3.cells
      rw [hna2] at z10
      rw [hca] at z8
      rw [hp2] at z7 z8 z9 z10
      have zl := hS3.lt
      rw [hp2] at zl
      have hw3 := (hA3.block _ (lt_of_heap (unhide HWB2))).trans (unhide HWB2)
      have hn3 := rlast V3 (.cells #[.int .i64 m'.now, .int .i64 (usedL m'.L), .int .i64 (tightI (tightB (usedL m'.L) c.qu)), .int .i64 1, .int .i64 (countL m'.L 1), .int .i64 (countL m'.L 2), .int .i64 (countL m'.L 3), .int .i64 m'.Gl.length] 37)
      have hbZ3 := (unhide HB2).trans (hA3.mono (unhide HB2).size)
      have a1 : (V3.alloc (.cells #[.int .i64 m'.now, .int .i64 (usedL m'.L), .int .i64 (tightI (tightB (usedL m'.L) c.qu)), .int .i64 1, .int .i64 (countL m'.L 1), .int .i64 (countL m'.L 2), .int .i64 (countL m'.L 3), .int .i64 m'.Gl.length] 37)).cell? ⟨wb, 1, none⟩ = some (.int .i64 (usedL m.L)) := by rw [rcell hw3]; rfl
      have a2 : (V3.alloc (.cells #[.int .i64 m'.now, .int .i64 (usedL m'.L), .int .i64 (tightI (tightB (usedL m'.L) c.qu)), .int .i64 1, .int .i64 (countL m'.L 1), .int .i64 (countL m'.L 2), .int .i64 (countL m'.L 3), .int .i64 m'.Gl.length] 37)).cell? ⟨V3.heap.size, 0, none⟩ = some (.int .i64 m'.now) := by rw [rcell hn3]; rfl
      have a3 : (V3.alloc (.cells #[.int .i64 m'.now, .int .i64 (usedL m'.L), .int .i64 (tightI (tightB (usedL m'.L) c.qu)), .int .i64 1, .int .i64 (countL m'.L 1), .int .i64 (countL m'.L 2), .int .i64 (countL m'.L 3), .int .i64 m'.Gl.length] 37)).cell? ⟨V3.heap.size, 1, none⟩ = some (.int .i64 (usedL m'.L)) := by rw [rcell hn3]; rfl
      have a4 := (hbZ3.cell (p := ⟨b, off + t * 4, none⟩) hbz).trans g0
      have al1 := lt_of_heap hw3
      have al2 := lt_of_heap hn3
      have al3 := Nat.lt_of_lt_of_le hbz hbZ3.size
      have HSH := hide ((unhide HSH2).later hA3)
      have HBZ := hide hbZ3
      clear hb3 hA3 hS3 hna2 hca hw3 hn3 hbZ3 v0 vl HST2 HWB2 HB2 HS2 HSH2 g0 g1 g2 g3 HWB HZ1 HBZ1 HS0 HO0
      go_wp2_with fail
      generalize (V3.alloc (.cells #[.int .i64 m'.now, .int .i64 (usedL m'.L), .int .i64 (tightI (tightB (usedL m'.L) c.qu)), .int .i64 1, .int .i64 (countL m'.L 1), .int .i64 (countL m'.L 2), .int .i64 (countL m'.L 3), .int .i64 m'.Gl.length] 37)) = U at *
      generalize hnb : V3.heap.size = nb at *
      have hc4 := hc.n4
      have hcq := hc.qu
      generalize usedL m'.L = u2 at *
      generalize usedL m.L = u1 at *
      obtain ⟨hu01, hu02⟩ := hu0
      obtain ⟨hu21, hu22⟩ := hu2
      have e1 : IntKind.i64.wrap (u1 + 1) = u1 + 1 := by rw [IntKind.wrap_i64]; omega
      have e2 : IntKind.i64.wrap (2 * (c.n : Int)) = 2 * c.n := by rw [IntKind.wrap_i64]; omega
      have e3 : IntKind.i64.wrap (u1 + 1 + 2 * (c.n : Int)) = u1 + 1 + 2 * c.n := by rw [IntKind.wrap_i64]; omega
      have f1 : decide (c.qu < u2) = false := by simp; omega
      by_cases hkd : kd = 1
      · rcases hC1 hkd with ⟨hm, hns, hfull⟩ | ⟨x, hns, hup, hto⟩
        · have k1 : (kd == 1) = true := by simp [hkd]
          have hN : ns'.length = ns.length := by rw [hns]
          rw [hN] at z10
          have f4 : decide (u1 + 1 + 2 * (c.n : Int) ≤ c.qu) = false := by simp; omega
          clear hC1 hC2 hm hns hkd hN hnj0 hnj2
          generalize ns.length = N1 at *
          refine region_still_d (by kernel_rfl) (by kernel_rfl) ?_
          iterate 21 ((with_reducible refine wpStill_step (fun K hK => ?_)); go_simp; (with_reducible refine hK _ ?_); clear hK K)
          refine wpStill_nil ?_
          go_wp2_with fail
          refine region_still_d (by kernel_rfl) (by kernel_rfl) ?_
          iterate 8 ((with_reducible refine wpStill_step (fun K hK => ?_)); go_simp; (with_reducible refine hK _ ?_); clear hK K)
          iterate 21 ((with_reducible refine still_skip (by kernel_rfl) ?_); (try simp only [Act.put, List.setIfInBounds_toArray, List.set_cons_zero, List.set_cons_succ]))
          iterate 1 ((with_reducible refine wpStill_step (fun K hK => ?_)); go_simp; (with_reducible refine hK _ ?_); clear hK K)
          refine wpStill_nil ?_
          go_wp2_with fail
          refine region_still_d (by kernel_rfl) (by kernel_rfl) ?_
          iterate 34 ((with_reducible refine wpStill_step (fun K hK => ?_)); go_simp; (with_reducible refine hK _ ?_); clear hK K)
          refine wpStill_nil ?_
          go_wp2_with fail
          go_roundw
          case rel => exact ⟨t + 1, m', ns', by omega, by go_num, ((unhide HSH).later (Below.refl _ _).drew).later (Below.refl _ _).drew |>.later (Below.refl _ _).drew, (((unhide HBZ).drew).drew).drew⟩
          case measure => simp [intOf]; omega
        · have k1 : (kd == 1) = true := by simp [hkd]
          have hN : ns'.length = ns.length + 1 := by rw [hns]; simp
          rw [hN] at z10
          have f4 : decide (u2 ≤ u1) = false := by simp; omega
          have f5 : decide (u1 + 1 + 2 * (c.n : Int) < u2) = false := by simp; omega
          clear hC1 hC2 hns hkd hN hnj0 hnj2
          generalize ns.length = N1 at *
          have f2 : (N1 : Int) < (N1 : Int) + 1 := by omega
          have f3 : ((N1 : Int) + 1 == (N1 : Int)) = false := by simp; omega
          refine region_still_d (by kernel_rfl) (by kernel_rfl) ?_
          iterate 21 ((with_reducible refine wpStill_step (fun K hK => ?_)); go_simp; (with_reducible refine hK _ ?_); clear hK K)
          refine wpStill_nil ?_
          go_wp2_with fail
          refine region_still_d (by kernel_rfl) (by kernel_rfl) ?_
          iterate 30 ((with_reducible refine wpStill_step (fun K hK => ?_)); go_simp; (with_reducible refine hK _ ?_); clear hK K)
          refine wpStill_nil ?_
          go_wp2_with fail
          refine region_still_d (by kernel_rfl) (by kernel_rfl) ?_
          iterate 16 ((with_reducible refine wpStill_step (fun K hK => ?_)); go_simp; (with_reducible refine hK _ ?_); clear hK K)
          iterate 17 ((with_reducible refine still_skip (by kernel_rfl) ?_); (try simp only [Act.put, List.setIfInBounds_toArray, List.set_cons_zero, List.set_cons_succ]))
          iterate 1 ((with_reducible refine wpStill_step (fun K hK => ?_)); go_simp; (with_reducible refine hK _ ?_); clear hK K)
          refine wpStill_nil ?_
          go_wp2_with fail
          go_roundw
          case rel => exact ⟨t + 1, m', ns', by omega, by go_num, ((unhide HSH).later (Below.refl _ _).drew).later (Below.refl _ _).drew |>.later (Below.refl _ _).drew, (((unhide HBZ).drew).drew).drew⟩
          case measure => simp [intOf]; omega
      · have k1 : (kd == 1) = false := by simp [hkd]
        have hN : ns'.length = ns.length := by rw [hC2 hkd]
        rw [hN] at z10
        clear hC1 hC2 hkd hN hnj0 hnj2
        generalize ns.length = N1 at *
        refine region_still_d (by kernel_rfl) (by kernel_rfl) ?_
        iterate 21 ((with_reducible refine wpStill_step (fun K hK => ?_)); go_simp; (with_reducible refine hK _ ?_); clear hK K)
        refine wpStill_nil ?_
        go_wp2_with fail
        refine region_still_d (by kernel_rfl) (by kernel_rfl) ?_
        iterate 8 ((with_reducible refine wpStill_step (fun K hK => ?_)); go_simp; (with_reducible refine hK _ ?_); clear hK K)
        iterate 21 ((with_reducible refine still_skip (by kernel_rfl) ?_); (try simp only [Act.put, List.setIfInBounds_toArray, List.set_cons_zero, List.set_cons_succ]))
        iterate 1 ((with_reducible refine wpStill_step (fun K hK => ?_)); go_simp; (with_reducible refine hK _ ?_); clear hK K)
        refine wpStill_nil ?_
        go_wp2_with fail
        refine region_still_d (by kernel_rfl) (by kernel_rfl) ?_
        iterate 7 ((with_reducible refine wpStill_step (fun K hK => ?_)); go_simp; (with_reducible refine hK _ ?_); clear hK K)
        iterate 7 ((with_reducible refine still_skip (by kernel_rfl) ?_); (try simp only [Act.put, List.setIfInBounds_toArray, List.set_cons_zero, List.set_cons_succ]))
        iterate 2 ((with_reducible refine wpStill_step (fun K hK => ?_)); go_simp; (with_reducible refine hK _ ?_); clear hK K)
        iterate 17 ((with_reducible refine still_skip (by kernel_rfl) ?_); (try simp only [Act.put, List.setIfInBounds_toArray, List.set_cons_zero, List.set_cons_succ]))
        iterate 1 ((with_reducible refine wpStill_step (fun K hK => ?_)); go_simp; (with_reducible refine hK _ ?_); clear hK K)
        refine wpStill_nil ?_
        go_wp2_with fail
        go_roundw
        case rel => exact ⟨t + 1, m', ns', by omega, by go_num, ((unhide HSH).later (Below.refl _ _).drew).later (Below.refl _ _).drew |>.later (Below.refl _ _).drew, (((unhide HBZ).drew).drew).drew⟩
        case measure => simp [intOf]; omega
    · have hltd : decide ((t : Int) < n2) = false := by simp; omega
      obtain ⟨na, nc, hna⟩ := row_slice hS0.nrow
      have hpa := used_parts m.L ho0.ok.seg.sts
      have hge := held_ge m.L ho0.ok.seg.held1
      have hhe := ho0.held
      have c1 := kcount_bound 1 m.L
      have c2 := kcount_bound 2 m.L
      have c3 := kcount_bound 3 m.L
      have e1 : IntKind.i64.wrap (countL m.L 2 + countL m.L 3) = countL m.L 2 + countL m.L 3 := by rw [IntKind.wrap_i64]; omega
      have e2 : IntKind.i64.wrap (2 * (countL m.L 2 + countL m.L 3)) = 2 * (countL m.L 2 + countL m.L 3) := by rw [IntKind.wrap_i64]; omega
      have e3 : IntKind.i64.wrap ((ns.length : Int) + 2 * (countL m.L 2 + countL m.L 3)) = (ns.length : Int) + 2 * (countL m.L 2 + countL m.L 3) := by rw [IntKind.wrap_i64]; omega
      have e4 : IntKind.i64.wrap (countL m.L 1 + 2 * (countL m.L 2 + countL m.L 3)) = countL m.L 1 + 2 * (countL m.L 2 + countL m.L 3) := by rw [IntKind.wrap_i64]; omega
      have f1 : usedL m.L ≤ (ns.length : Int) + 2 * (countL m.L 2 + countL m.L 3) := by omega
      have f2 : countL m.L 1 + 2 * (countL m.L 2 + countL m.L 3) ≤ usedL m.L := by omega
      have HS0 := hide hS0
      have HBW := hide hbw
      clear hsh hS0 ho0 hbw hpa hge hhe
      go_wp2_with fail
      refine (unhide HST1).mono ?_
      rintro e V1 ⟨rfl, hb1⟩
      have hA1 := hb1.alloc hb1.size (.cells #[.int .i64 m.now, .int .i64 (usedL m.L), .int .i64 (tightI (tightB (usedL m.L) c.qu)), .int .i64 1, .int .i64 (countL m.L 1), .int .i64 (countL m.L 2), .int .i64 (countL m.L 3), .int .i64 m.Gl.length] 37)
      have hSZ := (unhide HS0).later hA1
      have hn3 := rlast V1 (.cells #[.int .i64 m.now, .int .i64 (usedL m.L), .int .i64 (tightI (tightB (usedL m.L) c.qu)), .int .i64 1, .int .i64 (countL m.L 1), .int .i64 (countL m.L 2), .int .i64 (countL m.L 3), .int .i64 m.Gl.length] 37)
      have HBZ := hide ((unhide HBW).trans (hA1.mono (unhide HBW).size))
      have y10 := (hSZ.cells).2.2.2.2.2.2.2.1
      rw [hna, hp0] at y10
      have yl := hSZ.lt
      rw [hp0] at yl
      have a1 : (V1.alloc (.cells #[.int .i64 m.now, .int .i64 (usedL m.L), .int .i64 (tightI (tightB (usedL m.L) c.qu)), .int .i64 1, .int .i64 (countL m.L 1), .int .i64 (countL m.L 2), .int .i64 (countL m.L 3), .int .i64 m.Gl.length] 37)).cell? ⟨V1.heap.size, 1, none⟩ = some (.int .i64 (usedL m.L)) := by rw [rcell hn3]; rfl
      have a4 : (V1.alloc (.cells #[.int .i64 m.now, .int .i64 (usedL m.L), .int .i64 (tightI (tightB (usedL m.L) c.qu)), .int .i64 1, .int .i64 (countL m.L 1), .int .i64 (countL m.L 2), .int .i64 (countL m.L 3), .int .i64 m.Gl.length] 37)).cell? ⟨V1.heap.size, 4, none⟩ = some (.int .i64 (countL m.L 1)) := by rw [rcell hn3]; rfl
      have a5 : (V1.alloc (.cells #[.int .i64 m.now, .int .i64 (usedL m.L), .int .i64 (tightI (tightB (usedL m.L) c.qu)), .int .i64 1, .int .i64 (countL m.L 1), .int .i64 (countL m.L 2), .int .i64 (countL m.L 3), .int .i64 m.Gl.length] 37)).cell? ⟨V1.heap.size, 5, none⟩ = some (.int .i64 (countL m.L 2)) := by rw [rcell hn3]; rfl
      have a6 : (V1.alloc (.cells #[.int .i64 m.now, .int .i64 (usedL m.L), .int .i64 (tightI (tightB (usedL m.L) c.qu)), .int .i64 1, .int .i64 (countL m.L 1), .int .i64 (countL m.L 2), .int .i64 (countL m.L 3), .int .i64 m.Gl.length] 37)).cell? ⟨V1.heap.size, 6, none⟩ = some (.int .i64 (countL m.L 3)) := by rw [rcell hn3]; rfl
      have al := lt_of_heap hn3
      clear hb1 hA1 hSZ hn3 x0 xl HST1 hna HBW HS0
      go_wp2_with fail
      generalize (V1.alloc (.cells #[.int .i64 m.now, .int .i64 (usedL m.L), .int .i64 (tightI (tightB (usedL m.L) c.qu)), .int .i64 1, .int .i64 (countL m.L 1), .int .i64 (countL m.L 2), .int .i64 (countL m.L 3), .int .i64 m.Gl.length] 37)) = U at *
      generalize hnb : V1.heap.size = nb at *
      refine region_still_d (by kernel_rfl) (by kernel_rfl) ?_
      repeat still_step
      refine wpStill_nil ?_
      go_wp2_with fail
      go_ret
      exact ⟨rfl, (unhide HBZ).drew⟩
end Go.Proofs.YtpbimdkclnekeaaGreat
