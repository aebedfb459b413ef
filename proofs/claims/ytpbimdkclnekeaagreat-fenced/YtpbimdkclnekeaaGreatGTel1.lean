import Derived.Test.YtpbimdkclnekeaaGreatGPck1
import Derived.Test.YtpbimdkclnekeaaGreatGMlz1

namespace Go.Proofs.YtpbimdkclnekeaaGreat
open Go.RowKit Go.Maps Go.Shelf
open Go.ChangeMaps (setBlock)
set_option linter.unusedVariables false
set_option maxRecDepth 8000 in
set_option maxHeartbeats 4000000 in
theorem tell_free {w : World} {b : Nat} {c : Cf} {tv : Value} {ep num : Int} {tb qb : Nat} {TL : List (Jk × Tsk)} {QL : List (Tok × Lse)} (h : BoardAt w b c tv ep num tb qb TL QL) (x : Tsk) (hu : ∀ p ∈ QL, p.2.job ≠ x.key) :
    Calls Tryz.prog 89 #[.pointer (some ⟨b, 0, none⟩), .agg #[.iface x.jt (.agg #[.int .i64 x.s.t, .int .i64 x.s.ser, .int .i64 x.s.win]), .int .i64 x.since, .int .i64 x.tries, .int .i64 x.rest]] w fun e w' => e = .returned (.agg #[.int .i64 x.kd, .int .i64 x.s.t, .int .i64 x.s.ser, .int .i64 x.s.win, .int .i64 x.since, .int .i64 x.tries, .int .i64 x.rest, .int .i64 0, .int .i64 0, .int .i64 (-1), .int .i64 0]) ∧ Below w.heap.size w w' := by
  have hbl := h.lt
  have c10 := h.cell10
  obtain ⟨y0, y1, hbw, yz⟩ := box2 w (.cells #[.iface x.jt (.agg #[.int .i64 x.s.t, .int .i64 x.s.ser, .int .i64 x.s.win]), .int .i64 x.since, .int .i64 x.tries, .int .i64 x.rest] 162) (.cells #[.int .i64 0, .int .i64 0, .int .i64 0, .int .i64 0, .int .i64 0, .int .i64 0, .int .i64 0, .int .i64 0, .int .i64 0, .int .i64 0, .int .i64 0] 51)
  have HKO := hide (keyOf_any x ((w.alloc (.cells #[.iface x.jt (.agg #[.int .i64 x.s.t, .int .i64 x.s.ser, .int .i64 x.s.win]), .int .i64 x.since, .int .i64 x.tries, .int .i64 x.rest] 162)).alloc (.cells #[.int .i64 0, .int .i64 0, .int .i64 0, .int .i64 0, .int .i64 0, .int .i64 0, .int .i64 0, .int .i64 0, .int .i64 0, .int .i64 0, .int .i64 0] 51)))
  have H := hide h
  have Y0 := hide y0
  have Y1 := hide y1
  have HBW := hide hbw
  have YZ := hide yz
  clear h y0 y1 hbw yz
  go_enter Tryz.func89, Tryz.ntmps89
  go_wp2_with fail
  refine (ud HKO).mono ?_
  rintro e V1 ⟨rfl, hb1⟩
  have hz1 := hb1.size
  have yz := ud YZ
  have t0 := (hb1.block _ (by omega)).trans (ud Y0)
  have r0 := (hb1.block _ (by omega)).trans (ud Y1)
  have hb2 := (ud HBW).trans (hb1.mono (ud HBW).size)
  have hB1 := (ud H).later hb2
  have d10 := hB1.cell10
  have hbV := hB1.lt
  have ht0 := lt_of_heap t0
  have hr0 := lt_of_heap r0
  have s1 : V1.cell? ⟨w.heap.size, 1, none⟩ = some (.int .i64 x.since) := by rw [rcell t0]; rfl
  have s2 : V1.cell? ⟨w.heap.size, 2, none⟩ = some (.int .i64 x.tries) := by rw [rcell t0]; rfl
  have s3 : V1.cell? ⟨w.heap.size, 3, none⟩ = some (.int .i64 x.rest) := by rw [rcell t0]; rfl
  have R0 := hide r0
  have HB2 := hide hb2
  have HBD := hide hB1
  clear hb1 yz t0 r0 hb2 hB1 c10 Y0 Y1 HBW YZ HKO
  --LOOP
  obtain ⟨es, clock, hqe, hqm⟩ := (ud HBD).leases
  obtain ⟨v0, v1, hb3, vz⟩ := box2 V1 (.cells #[.int .i64 x.kd, .int .i64 x.s.t, .int .i64 x.s.ser, .int .i64 x.s.win] 147) (.cells #[.int .i64 x.kd, .int .i64 x.s.t, .int .i64 x.s.ser, .int .i64 x.s.win, .int .i64 x.since, .int .i64 x.tries, .int .i64 x.rest, .int .i64 0, .int .i64 0, .int .i64 (-1), .int .i64 0] 51)
  have hq2 := (hb3.block _ (lt_of_heap hqe)).trans hqe
  have hrange := run_range_map (P := Tryz.prog) ((V1.alloc (.cells #[.int .i64 x.kd, .int .i64 x.s.t, .int .i64 x.s.ser, .int .i64 x.s.win] 147)).alloc (.cells #[.int .i64 x.kd, .int .i64 x.s.t, .int .i64 x.s.ser, .int .i64 x.s.win, .int .i64 x.since, .int .i64 x.tries, .int .i64 x.rest, .int .i64 0, .int .i64 0, .int .i64 (-1), .int .i64 0] 51)) 153 _ _ qb es clock Tryz.underlying153 hq2
  have HHV := hide (And.intro v0 (And.intro v1 (And.intro hb3 (And.intro vz (And.intro hq2 hqm)))))
  have hqV := lt_of_heap hqe
  clear hqe hqm v0 v1 hb3 vz hq2
  go_wp2_with fail
  obtain ⟨v0, v1, hb3, vz, hq2, hqm⟩ := ud HHV
  generalize ((V1.alloc (.cells #[.int .i64 x.kd, .int .i64 x.s.t, .int .i64 x.s.ser, .int .i64 x.s.win] 147)).alloc (.cells #[.int .i64 x.kd, .int .i64 x.s.t, .int .i64 x.s.ser, .int .i64 x.s.win, .int .i64 x.since, .int .i64 x.tries, .int .i64 x.rest, .int .i64 0, .int .i64 0, .int .i64 (-1), .int .i64 0] 51)) = W2 at *
  have hr2 := (hb3.block _ hr0).trans (ud R0)
  have hV12 := hb3.size
  clear hrange d10 s1 s2 s3 HHV
  have HM := hide hqm
  have HQ2 := hide hq2
  have HV0 := hide v0
  have HB3 := hide hb3
  have HVZ := hide vz
  have HR2 := hide hr2
  go_loopw [7, 8] (fun _ _ wr => ∃ (seen : Array Nat) (c0 : Nat), wr.heap[(V1.heap.size + 1 + 1)]? = some (.mapIter (some qb) clock seen c0) ∧ clock ≤ c0 ∧ wr.heap[qb]? = some (.map es clock) ∧ wr.heap[V1.heap.size + 1]? = some (outObj x (⟨0, 0⟩, -1, 0)) ∧ Kept (fun k => k = V1.heap.size + 1) W2 wr)
    (fun _ _ wr => leftAt es (V1.heap.size + 1 + 1) wr)
  case atStart =>
    have hb0 : Below W2.heap.size W2 (W2.alloc (.mapIter (some qb) clock #[] clock)) := (Below.refl _ _).alloc (Nat.le_refl _) _
    refine ⟨#[], clock, by have := rlast W2 (.mapIter (some qb) clock #[] clock); rw [show W2.heap.size = (V1.heap.size + 1 + 1) from ud HVZ] at this; exact this, Nat.le_refl _, (hb0.block _ (lt_of_heap hq2)).trans hq2, (hb0.block _ (lt_of_heap v1)).trans v1, Kept.of_below hb0⟩
  case round =>
    obtain ⟨seen, c0, hr, hc0, hqr, hob, hK⟩ := hrel
    have hrl := lt_of_heap hr
    have hz2 : W2.heap.size = (V1.heap.size + 1 + 1) := ud HVZ
    rcases run_next_at (P := Tryz.prog) wr 0 (V1.heap.size + 1 + 1) qb clock c0 seen es clock hr hqr (ud HM).born hc0 with ⟨hz, hnext⟩ | ⟨e, hel, w1, hw1, hnext⟩
    · have hrz := hK.heap (k := w.heap.size + 1) (ud HR2) (by omega)
      have hob' : wr.heap[V1.heap.size + 1]? = some (.cells #[.int .i64 x.kd, .int .i64 x.s.t, .int .i64 x.s.ser, .int .i64 x.s.win, .int .i64 x.since, .int .i64 x.tries, .int .i64 x.rest, .int .i64 0, .int .i64 0, .int .i64 (-1), .int .i64 0] 51 (0, 0)) := hob
      have o0 : wr.cell? ⟨V1.heap.size + 1, 0, none⟩ = some (.int .i64 x.kd) := by rw [rcell hob']; rfl
      have o1 : wr.cell? ⟨V1.heap.size + 1, 1, none⟩ = some (.int .i64 x.s.t) := by rw [rcell hob']; rfl
      have o2 : wr.cell? ⟨V1.heap.size + 1, 2, none⟩ = some (.int .i64 x.s.ser) := by rw [rcell hob']; rfl
      have o3 : wr.cell? ⟨V1.heap.size + 1, 3, none⟩ = some (.int .i64 x.s.win) := by rw [rcell hob']; rfl
      have o4 : wr.cell? ⟨V1.heap.size + 1, 4, none⟩ = some (.int .i64 x.since) := by rw [rcell hob']; rfl
      have o5 : wr.cell? ⟨V1.heap.size + 1, 5, none⟩ = some (.int .i64 x.tries) := by rw [rcell hob']; rfl
      have o6 : wr.cell? ⟨V1.heap.size + 1, 6, none⟩ = some (.int .i64 x.rest) := by rw [rcell hob']; rfl
      have o7 : wr.cell? ⟨V1.heap.size + 1, 7, none⟩ = some (.int .i64 0) := by rw [rcell hob']; rfl
      have o8 : wr.cell? ⟨V1.heap.size + 1, 8, none⟩ = some (.int .i64 0) := by rw [rcell hob']; rfl
      have o9 : wr.cell? ⟨V1.heap.size + 1, 9, none⟩ = some (.int .i64 (-1)) := by rw [rcell hob']; rfl
      have o10 : wr.cell? ⟨V1.heap.size + 1, 10, none⟩ = some (.int .i64 0) := by rw [rcell hob']; rfl
      have z0 : wr.cell? ⟨w.heap.size + 1, 0, none⟩ = some (.int .i64 0) := by rw [rcell hrz]; rfl
      have z1 : wr.cell? ⟨w.heap.size + 1, 1, none⟩ = some (.int .i64 0) := by rw [rcell hrz]; rfl
      have z2 : wr.cell? ⟨w.heap.size + 1, 2, none⟩ = some (.int .i64 0) := by rw [rcell hrz]; rfl
      have z3 : wr.cell? ⟨w.heap.size + 1, 3, none⟩ = some (.int .i64 0) := by rw [rcell hrz]; rfl
      have z4 : wr.cell? ⟨w.heap.size + 1, 4, none⟩ = some (.int .i64 0) := by rw [rcell hrz]; rfl
      have z5 : wr.cell? ⟨w.heap.size + 1, 5, none⟩ = some (.int .i64 0) := by rw [rcell hrz]; rfl
      have z6 : wr.cell? ⟨w.heap.size + 1, 6, none⟩ = some (.int .i64 0) := by rw [rcell hrz]; rfl
      have z7 : wr.cell? ⟨w.heap.size + 1, 7, none⟩ = some (.int .i64 0) := by rw [rcell hrz]; rfl
      have z8 : wr.cell? ⟨w.heap.size + 1, 8, none⟩ = some (.int .i64 0) := by rw [rcell hrz]; rfl
      have z9 : wr.cell? ⟨w.heap.size + 1, 9, none⟩ = some (.int .i64 0) := by rw [rcell hrz]; rfl
      have z10 : wr.cell? ⟨w.heap.size + 1, 10, none⟩ = some (.int .i64 0) := by rw [rcell hrz]; rfl
      have zf := fun j => rfree hrz j
      have hlz := lt_of_heap hrz
      have hlo := lt_of_heap hob'
      have hneb : ¬ V1.heap.size + 1 = w.heap.size + 1 := by omega
      have HKK := hide hK
      have HRZ := hide hrz
      clear hz2
      clear hz hob hob' hK hrz hr hqr hc0
      go_wp2_with fail
      have hf := row11 (ud HRZ) (.int .i64 x.kd) (.int .i64 x.s.t) (.int .i64 x.s.ser) (.int .i64 x.s.win) (.int .i64 x.since) (.int .i64 x.tries) (.int .i64 x.rest) (.int .i64 0) (.int .i64 0) (.int .i64 (-1)) (.int .i64 0)
      have hk := ud HKK
      have hbk : Below w.heap.size W2 wr := ⟨hk.os, hk.tape, hk.output, hk.size, fun j hj => hk.block j (by have := ud HVZ; omega) (by omega)⟩
      have hbb := (ud HB2).trans (((ud HB3).mono (by omega)).trans hbk)
      refine bodyPost_ret (v := .agg #[.int .i64 x.kd, .int .i64 x.s.t, .int .i64 x.s.ser, .int .i64 x.s.win, .int .i64 x.since, .int .i64 x.tries, .int .i64 x.rest, .int .i64 0, .int .i64 0, .int .i64 (-1), .int .i64 0]) (results_cell_row Tryz.results89 _ _ (w.heap.size + 1) _ _ _ _ rfl hf Tryz.underlying51 rfl (by kernel_rfl)) rfl ?_
      exact ⟨rfl, hbb.trans (below11 (Nat.le_succ _) (.int .i64 x.kd) (.int .i64 x.s.t) (.int .i64 x.s.ser) (.int .i64 x.s.win) (.int .i64 x.since) (.int .i64 x.tries) (.int .i64 x.rest) (.int .i64 0) (.int .i64 0) (.int .i64 (-1)) (.int .i64 0))⟩
    · have HEL := hide hel
      obtain ⟨hee, hns⟩ := mem_leftOf.1 hel
      have hr1 : w1.heap[(V1.heap.size + 1 + 1)]? = some (.mapIter (some qb) clock seen c0) := by rcases hw1 with rfl | rfl <;> exact hr
      have hq1 : w1.heap[qb]? = some (.map es clock) := by rcases hw1 with rfl | rfl <;> exact hqr
      have ho1 : w1.heap[V1.heap.size + 1]? = some (outObj x (⟨0, 0⟩, -1, 0)) := by rcases hw1 with rfl | rfl <;> exact hob
      have hne : qb ≠ (V1.heap.size + 1 + 1) := by omega
      obtain ⟨X, hX⟩ : ∃ X, setBlock w1 (V1.heap.size + 1 + 1) (.mapIter (some qb) clock (seen.push e.born) clock) = X := ⟨_, rfl⟩
      have hXr : X.heap[(V1.heap.size + 1 + 1)]? = some (.mapIter (some qb) clock (seen.push e.born) clock) := by rw [← hX]; exact setBlock_at (lt_of_heap hr1) _
      have hXb : X.heap[qb]? = some (.map es clock) := by rw [← hX, setBlock_other hne]; exact hq1
      have hXo : X.heap[V1.heap.size + 1]? = some (outObj x (⟨0, 0⟩, -1, 0)) := by rw [← hX, setBlock_other (by omega)]; exact ho1
      have hkX : Kept (fun k => k = (V1.heap.size + 1 + 1)) wr X := by
        rw [← hX]; rcases hw1 with rfl | rfl
        · exact kept_block _
        · exact (Kept.refl (fun k => k = (V1.heap.size + 1 + 1)) wr).drew.trans (kept_block _) (fun _ _ h => h)
      have hKX : Kept (fun k => k = V1.heap.size + 1) W2 X := hK.trans hkX (fun i hi e => by omega)
      rw [hX] at hnext
      have hent := run_entry_at (P := Tryz.prog) X (V1.heap.size + 1 + 1) qb clock seen es clock e hXr hXb hee (ud HM).once
      obtain ⟨hdm, hk, hv⟩ := dec_at leases_ok (ud HM) hee
      obtain ⟨⟨t', y⟩, hy0⟩ : ∃ y, decE leasesM QL e = y := ⟨_, rfl⟩
      rw [hy0] at hdm hk hv
      have hkey : e.key = tokVal t' := hk
      have hval : e.val = lseVal y := hv
      have HKEY := hide hkey
      unfold tokVal at hkey
      unfold lseVal at hval
      rw [hkey, hval] at hnext hent
      have hXl := lt_of_heap hXr
      have hkX0 := hKX.heap (ud HV0) (by omega)
      have kc0 : X.cell? ⟨V1.heap.size, 0, none⟩ = some (.int .i64 x.kd) := by rw [rcell hkX0]; rfl
      have kc1 : X.cell? ⟨V1.heap.size, 1, none⟩ = some (.int .i64 x.s.t) := by rw [rcell hkX0]; rfl
      have kc2 : X.cell? ⟨V1.heap.size, 2, none⟩ = some (.int .i64 x.s.ser) := by rw [rcell hkX0]; rfl
      have kc3 : X.cell? ⟨V1.heap.size, 3, none⟩ = some (.int .i64 x.s.win) := by rw [rcell hkX0]; rfl
      have hkl := lt_of_heap hkX0
      have hol := lt_of_heap hXo
      have heq := fun W => eq_jk2 ⟨y.kd, y.s⟩ x.key W
      have hxo : X.heap[V1.heap.size + 1]? = some (.cells #[.int .i64 x.kd, .int .i64 x.s.t, .int .i64 x.s.ser, .int .i64 x.s.win, .int .i64 x.since, .int .i64 x.tries, .int .i64 x.rest, .int .i64 0, .int .i64 0, .int .i64 (-1), .int .i64 0] 51 (0, 0)) := hXo
      have q7 : X.cell? ⟨V1.heap.size + 1, 7, none⟩ = some (.int .i64 0) := by rw [rcell hxo]; rfl
      have q8 : X.cell? ⟨V1.heap.size + 1, 8, none⟩ = some (.int .i64 0) := by rw [rcell hxo]; rfl
      have q9 : X.cell? ⟨V1.heap.size + 1, 9, none⟩ = some (.int .i64 (-1)) := by rw [rcell hxo]; rfl
      have q10 : X.cell? ⟨V1.heap.size + 1, 10, none⟩ = some (.int .i64 0) := by rw [rcell hxo]; rfl
      have qf := fun j => rfree hxo j
      have HP := hide (And.intro hXr (And.intro hXb (And.intro hXo (And.intro hKX (And.intro hee (And.intro hdm hr))))))
      have hV : Below X.heap.size X ((X.alloc (.cells #[.int .i64 t'.ep, .int .i64 t'.num] 49)).alloc (.cells #[.int .i64 y.kd, .int .i64 y.s.t, .int .i64 y.s.ser, .int .i64 y.s.win, .int .i64 y.slot, .int .i64 y.til] 149)) := ((Below.refl _ _).alloc (Nat.le_refl _) _).alloc ((Below.refl _ _).alloc (Nat.le_refl _) _).size _
      have HV := hide hV
      have hd0 : decide ((⟨y.kd, y.s⟩ : Jk) = x.key) = true ∨ decide ((⟨y.kd, y.s⟩ : Jk) = x.key) = false := by cases decide ((⟨y.kd, y.s⟩ : Jk) = x.key) <;> simp
      clear hz2
      clear hr1 hq1 ho1 hX hw1 hk hv hy0 hel hee hns hkey hval hqr hXr hXb hXo hKX hkX hK hob hr hc0 hxo hkX0 hV
      rcases hd0 with hd0 | hd0
      · exact absurd (of_decide_eq_true hd0) (hu (t', y) hdm)
      · simp only [hd0] at heq
        dsimp only [Tsk.key] at heq
        clear hd0 hdm
        go_wp2_with fail
        obtain ⟨hXr, hXb, hXo, hKX, hee, hdm, hr⟩ := ud HP
        have hV := ud HV
        have hr3 := (hV.block _ hXl).trans hXr
        refine ⟨⟨_, _, hr3, Nat.le_refl _, (hV.block _ (lt_of_heap hXb)).trans hXb, (hV.block _ hol).trans hXo, kept_below hKX hV⟩, ?_⟩
        · rw [leftAt_eq hr3, leftAt_eq hr]; exact left_less (ud HEL)
end Go.Proofs.YtpbimdkclnekeaaGreat

namespace Go.Proofs.YtpbimdkclnekeaaGreat
open Go.RowKit Go.Maps Go.Shelf
open Go.ChangeMaps (setBlock)
set_option linter.unusedVariables false
set_option maxRecDepth 20000 in
set_option maxHeartbeats 4000000 in
theorem commit_Roll {w : World} {i : Ids} {c : Cf} {ep : Int} {m : MS} (h : MillAt w i c ep m) (hc : c.ok) (t : Tok) (ht : t.wf) {g : Lse} (hg : getM m.QL t = some g) (hj : g.job.wf) (s : Sg) (since tries rest : Int) (hx : getM m.TL g.job = some ⟨true, s, since, tries, rest⟩) (hs : inR c s) (k : Nat) (hk : s.t = k) (hlen : m.L.length ≤ 1000) (hgl : m.Gl.length ≤ 1000000000)
    (hL2 : ∀ p ∈ putL m.L s ⟨3, joinL (standL c m.L s.ser s.win k)⟩, inR c p.1) (hlen2 : (putL m.L s ⟨3, joinL (standL c m.L s.ser s.win k)⟩).length ≤ 2000) (hnow : 0 ≤ m.now ∧ m.now ≤ 100000) (htl : m.TL.length ≤ 50000) :
    Calls Tryz.prog 18 #[.pointer (some ⟨i.x, 0, none⟩), .agg #[.int .i64 t.ep, .int .i64 t.num]] w fun e w' => e = .returned (.int .i64 0) ∧ ∃ TL', MillAt w' i c ep { m with L := putL m.L s ⟨3, joinL (standL c m.L s.ser s.win k)⟩, Gl := m.Gl, TL := TL', QL := delM m.QL t } ∧ Kept (mfoot i) w w' ∧ Posted c { m with L := putL m.L s ⟨3, joinL (standL c m.L s.ser s.win k)⟩, Gl := m.Gl, TL := delM m.TL g.job, QL := delM m.QL t } TL' := by
  have HDOX := fun (W : World) (hW : MillAt W i c ep m) => hide (doR_any hW hc s hs k hk (by omega))
  generalize putL m.L s ⟨3, joinL (standL c m.L s.ser s.win k)⟩ = L2 at *
  clear hk
  have hba : Below w.heap.size w (w.alloc (.cells #[.int .i64 t.ep, .int .i64 t.num] 49)) := (Below.refl _ _).alloc (Nat.le_refl _) _
  have q0 := rlast w (.cells #[.int .i64 t.ep, .int .i64 t.num] 49)
  have qz := rsize w (.cells #[.int .i64 t.ep, .int .i64 t.num] 49)
  have hX := h.later hba
  obtain ⟨-, -, -, -, -, -, -, -, c8, -, c10⟩ := hX.cells
  have hxl := hX.lt
  have hql := lt_of_heap q0
  have k0 : (w.alloc (.cells #[.int .i64 t.ep, .int .i64 t.num] 49)).cell? ⟨w.heap.size, 0, none⟩ = some (.int .i64 t.ep) := by rw [rcell q0]; rfl
  have k1 : (w.alloc (.cells #[.int .i64 t.ep, .int .i64 t.num] 49)).cell? ⟨w.heap.size, 1, none⟩ = some (.int .i64 t.num) := by rw [rcell q0]; rfl
  have hkw : (⟨(lseOr (getM m.QL t)).kd, (lseOr (getM m.QL t)).s⟩ : Jk).wf := by rw [hg]; exact hj
  have HL : ∀ W, Below w.heap.size w W → Hid (Calls Tryz.prog 41 #[.pointer (some ⟨i.b, 0, none⟩), .agg #[.int .i64 t.ep, .int .i64 t.num]] W fun e w' => e = .returned (.tuple #[.iface 175 (.agg #[.int .i64 s.t, .int .i64 s.ser, .int .i64 s.win]), .bool true]) ∧ Below W.heap.size W w') := fun W hW => by
    have := leasedT_any ((h.later (w' := W) hW).board) t ht hkw
    rw [hg] at this
    have e1 : getM m.TL ⟨(lseOr (some g)).kd, (lseOr (some g)).s⟩ = some ⟨true, s, since, tries, rest⟩ := hx
    rw [e1] at this
    exact this
  have HBA := hide hba
  have QZ := hide qz
  have H := hide h
  have Q0 := hide q0
  have HG := hide hg
  have HX9 := hide hx
  clear h hX hba q0 qz hkw hg hx
  go_enter Tryz.func18, Tryz.ntmps18
  go_wp2_with fail
  have p1 : w.heap.size < w.heap.size + 1 := by omega
  have p2 : i.x < w.heap.size + 1 := by have := ud QZ; omega
  generalize (w.alloc (.cells #[.int .i64 t.ep, .int .i64 t.num] 49)) = X at *
  generalize hN : w.heap.size + 1 = N at *
  have hne : Nonempty (Later N X) := Later.some _ _
  have hlc := fun (u : Later N X) b o h => u.cell b o h
  have hNX : N ≤ X.heap.size := by rw [ud QZ]; exact Nat.le_refl _
  have HNX := hide hNX
  have HNL : Hid (w.heap.size ≤ N) := by show w.heap.size ≤ N; omega
  have HN := hide hN
  clear hNX hN
  refine wp_region_later N (by kernel_rfl) (by kernel_rfl) ?_
  repeat (go_big_quiet_step (first
    | (go_at_call 41; exact Calls.later (ud HNX) (ud (HL _ ((ud HBA).trans (Below.mono (Subtype.property _) (ud HNL))))))))
  refine wpQuiet_nil ?_
  rintro ⟨w1, hb1⟩
  clear hlc hne
  dsimp only
  have hb2 := (ud HBA).trans (hb1.mono (ud HNL))
  have HM1 := hide ((ud H).later hb2)
  have HB2 := hide hb2
  have hq1 := (hb1.block _ (show w.heap.size < N by have := ud HN; omega)).trans (ud Q0)
  have HQ1 := hide hq1
  have HDO := HDOX w1 (ud HM1)
  clear HDOX
  clear k0 k1 c10 hb1 hb2 hq1 HL
  go_wp2_with (first | (go_at_call 42; refine (ud HDO).mono ?_; rintro e V1 ⟨rfl, hM1, hK1⟩; have HV1 := hide hM1; have HK1 := hide hK1; clear hM1 hK1))
  have hM2 := ud HV1
  obtain ⟨-, -, -, -, -, -, -, -, -, -, d10⟩ := hM2.cells
  have hxV := hM2.lt
  have hfl := (ud H).foot_lt
  have hqV : V1.heap[w.heap.size]? = some (.cells #[.int .i64 t.ep, .int .i64 t.num] 49 (0, 0)) := (ud HK1).heap (ud HQ1) (fun e => by have h1 := hfl i.lb (.inr (.inl (.inr (.inr (.inl rfl))))); have h2 := hfl i.gb (.inr (.inl (.inr (.inr (.inr rfl))))); omega)
  have t0 : V1.cell? ⟨w.heap.size, 0, none⟩ = some (.int .i64 t.ep) := by rw [rcell hqV]; rfl
  have t1 : V1.cell? ⟨w.heap.size, 1, none⟩ = some (.int .i64 t.num) := by rw [rcell hqV]; rfl
  have hqVl := lt_of_heap hqV
  have HDN := hide (done_any ((hM2.later (Below.refl _ _).drew).board) t ht (ud HG) hj)
  clear hM2 hqV hfl
  refine region_tail 5 (by kernel_rfl) (by kernel_rfl) ?_
  simp only [List.take_succ_cons, List.take_zero, List.drop_succ_cons, List.drop_zero]
  repeat still_step
  refine wpStill_nil ?_
  go_wp2_with (first | (go_at_call 43; refine (ud HDN).mono ?_; rintro e V2 ⟨rfl, hB2, hK2⟩; have HV2 := hide hB2; have HK2 := hide hK2; clear hB2 hK2))
  have hkb : Kept (bfoot i.b i.tb i.qb) V1 V2 := ((Kept.refl (bfoot i.b i.tb i.qb) V1).drew).trans ((ud HK2).mono (fun k _ e => .inr e)) (fun _ _ e => e)
  have hM3 := (ud HV1).putBoard (ud HV2) hkb
  have HKB := hide hkb
  have HPO := hide (post_any hM3 hc hL2 hlen2 hnow (by have := length_delM_le (L := m.TL) (a := g.job); show (delM m.TL g.job).length ≤ 50000; omega))
  clear hkb hM3
  go_wp2_with (first | (go_at_call 44; refine (ud HPO).mono ?_; rintro e V3 ⟨rfl, TL', hM4, hK4, hP4⟩; have HV3 := hide hM4; have HK3 := hide hK4; have HP3 := hide hP4; clear hM4 hK4 hP4))
  go_ret
  have k1 : Kept (mfoot i) w V1 := (Kept.of_below (f := mfoot i) (ud HB2)).trans ((ud HK1).mono (fun q _ e => .inr (.inl (.inr (.inr (.inl e)))))) (fun _ _ e => e)
  have k2 := k1.trans ((ud HKB).mono (fun q _ e => .inr (.inr e))) (fun _ _ e => e)
  have k3 := k2.trans ((ud HK3).mono (fun q _ e => .inr (.inr (.inr (.inl e))))) (fun _ _ e => e)
  exact ⟨rfl, TL', ud HV3, k3, ud HP3⟩
end Go.Proofs.YtpbimdkclnekeaaGreat

namespace Go.Proofs.YtpbimdkclnekeaaGreat
open Go.RowKit Go.Maps Go.Shelf
open Go.ChangeMaps (setBlock)
set_option linter.unusedVariables false
set_option maxRecDepth 20000 in
set_option maxHeartbeats 4000000 in
theorem commit_Reclaim {w : World} {i : Ids} {c : Cf} {ep : Int} {m : MS} (h : MillAt w i c ep m) (hc : c.ok) (t : Tok) (ht : t.wf) {g : Lse} (hg : getM m.QL t = some g) (hj : g.job.wf) (s : Sg) (since tries rest : Int) (hx : getM m.TL g.job = some ⟨false, s, since, tries, rest⟩) (hs : inR c s) (hlen : m.L.length ≤ 1000) (hgl : m.Gl.length ≤ 1000000000)
    (hL2 : ∀ p ∈ delM m.L s, inR c p.1) (hlen2 : (delM m.L s).length ≤ 2000) (hnow : 0 ≤ m.now ∧ m.now ≤ 100000) (htl : m.TL.length ≤ 50000) :
    Calls Tryz.prog 18 #[.pointer (some ⟨i.x, 0, none⟩), .agg #[.int .i64 t.ep, .int .i64 t.num]] w fun e w' => e = .returned (.int .i64 0) ∧ ∃ TL', MillAt w' i c ep { m with L := delM m.L s, Gl := putM m.Gl s (), TL := TL', QL := delM m.QL t } ∧ Kept (mfoot i) w w' ∧ Posted c { m with L := delM m.L s, Gl := putM m.Gl s (), TL := delM m.TL g.job, QL := delM m.QL t } TL' := by
  have HDOX := fun (W : World) (hW : MillAt W i c ep m) => hide (doC_any hW s hs.1 hgl)
  generalize delM m.L s = L2 at *
  generalize putM m.Gl s () = G2 at *
  have hba : Below w.heap.size w (w.alloc (.cells #[.int .i64 t.ep, .int .i64 t.num] 49)) := (Below.refl _ _).alloc (Nat.le_refl _) _
  have q0 := rlast w (.cells #[.int .i64 t.ep, .int .i64 t.num] 49)
  have qz := rsize w (.cells #[.int .i64 t.ep, .int .i64 t.num] 49)
  have hX := h.later hba
  obtain ⟨-, -, -, -, -, -, -, -, c8, -, c10⟩ := hX.cells
  have hxl := hX.lt
  have hql := lt_of_heap q0
  have k0 : (w.alloc (.cells #[.int .i64 t.ep, .int .i64 t.num] 49)).cell? ⟨w.heap.size, 0, none⟩ = some (.int .i64 t.ep) := by rw [rcell q0]; rfl
  have k1 : (w.alloc (.cells #[.int .i64 t.ep, .int .i64 t.num] 49)).cell? ⟨w.heap.size, 1, none⟩ = some (.int .i64 t.num) := by rw [rcell q0]; rfl
  have hkw : (⟨(lseOr (getM m.QL t)).kd, (lseOr (getM m.QL t)).s⟩ : Jk).wf := by rw [hg]; exact hj
  have HL : ∀ W, Below w.heap.size w W → Hid (Calls Tryz.prog 41 #[.pointer (some ⟨i.b, 0, none⟩), .agg #[.int .i64 t.ep, .int .i64 t.num]] W fun e w' => e = .returned (.tuple #[.iface 177 (.agg #[.int .i64 s.t, .int .i64 s.ser, .int .i64 s.win]), .bool true]) ∧ Below W.heap.size W w') := fun W hW => by
    have := leasedT_any ((h.later (w' := W) hW).board) t ht hkw
    rw [hg] at this
    have e1 : getM m.TL ⟨(lseOr (some g)).kd, (lseOr (some g)).s⟩ = some ⟨false, s, since, tries, rest⟩ := hx
    rw [e1] at this
    exact this
  have HBA := hide hba
  have QZ := hide qz
  have H := hide h
  have Q0 := hide q0
  have HG := hide hg
  have HX9 := hide hx
  clear h hX hba q0 qz hkw hg hx
  go_enter Tryz.func18, Tryz.ntmps18
  go_wp2_with fail
  have p1 : w.heap.size < w.heap.size + 1 := by omega
  have p2 : i.x < w.heap.size + 1 := by have := ud QZ; omega
  generalize (w.alloc (.cells #[.int .i64 t.ep, .int .i64 t.num] 49)) = X at *
  generalize hN : w.heap.size + 1 = N at *
  have hne : Nonempty (Later N X) := Later.some _ _
  have hlc := fun (u : Later N X) b o h => u.cell b o h
  have hNX : N ≤ X.heap.size := by rw [ud QZ]; exact Nat.le_refl _
  have HNX := hide hNX
  have HNL : Hid (w.heap.size ≤ N) := by show w.heap.size ≤ N; omega
  have HN := hide hN
  clear hNX hN
  refine wp_region_later N (by kernel_rfl) (by kernel_rfl) ?_
  repeat (go_big_quiet_step (first
    | (go_at_call 41; exact Calls.later (ud HNX) (ud (HL _ ((ud HBA).trans (Below.mono (Subtype.property _) (ud HNL))))))))
  refine wpQuiet_nil ?_
  rintro ⟨w1, hb1⟩
  clear hlc hne
  dsimp only
  have hb2 := (ud HBA).trans (hb1.mono (ud HNL))
  have HM1 := hide ((ud H).later hb2)
  have HB2 := hide hb2
  have hq1 := (hb1.block _ (show w.heap.size < N by have := ud HN; omega)).trans (ud Q0)
  have HQ1 := hide hq1
  have HDO := HDOX w1 (ud HM1)
  clear HDOX
  clear k0 k1 c10 hb1 hb2 hq1 HL
  go_wp2_with (first | (go_at_call 42; refine (ud HDO).mono ?_; rintro e V1 ⟨rfl, hM1, hK1⟩; have HV1 := hide hM1; have HK1 := hide hK1; clear hM1 hK1))
  have hM2 := ud HV1
  obtain ⟨-, -, -, -, -, -, -, -, -, -, d10⟩ := hM2.cells
  have hxV := hM2.lt
  have hfl := (ud H).foot_lt
  have hqV : V1.heap[w.heap.size]? = some (.cells #[.int .i64 t.ep, .int .i64 t.num] 49 (0, 0)) := (ud HK1).heap (ud HQ1) (fun e => by have h1 := hfl i.lb (.inr (.inl (.inr (.inr (.inl rfl))))); have h2 := hfl i.gb (.inr (.inl (.inr (.inr (.inr rfl))))); omega)
  have t0 : V1.cell? ⟨w.heap.size, 0, none⟩ = some (.int .i64 t.ep) := by rw [rcell hqV]; rfl
  have t1 : V1.cell? ⟨w.heap.size, 1, none⟩ = some (.int .i64 t.num) := by rw [rcell hqV]; rfl
  have hqVl := lt_of_heap hqV
  have HDN := hide (done_any ((hM2.later (Below.refl _ _).drew).board) t ht (ud HG) hj)
  clear hM2 hqV hfl
  refine region_tail 5 (by kernel_rfl) (by kernel_rfl) ?_
  simp only [List.take_succ_cons, List.take_zero, List.drop_succ_cons, List.drop_zero]
  repeat still_step
  refine wpStill_nil ?_
  go_wp2_with (first | (go_at_call 43; refine (ud HDN).mono ?_; rintro e V2 ⟨rfl, hB2, hK2⟩; have HV2 := hide hB2; have HK2 := hide hK2; clear hB2 hK2))
  have hkb : Kept (bfoot i.b i.tb i.qb) V1 V2 := ((Kept.refl (bfoot i.b i.tb i.qb) V1).drew).trans ((ud HK2).mono (fun k _ e => .inr e)) (fun _ _ e => e)
  have hM3 := (ud HV1).putBoard (ud HV2) hkb
  have HKB := hide hkb
  have HPO := hide (post_any hM3 hc hL2 hlen2 hnow (by have := length_delM_le (L := m.TL) (a := g.job); show (delM m.TL g.job).length ≤ 50000; omega))
  clear hkb hM3
  go_wp2_with (first | (go_at_call 44; refine (ud HPO).mono ?_; rintro e V3 ⟨rfl, TL', hM4, hK4, hP4⟩; have HV3 := hide hM4; have HK3 := hide hK4; have HP3 := hide hP4; clear hM4 hK4 hP4))
  go_ret
  have k1 : Kept (mfoot i) w V1 := (Kept.of_below (f := mfoot i) (ud HB2)).trans ((ud HK1).mono (fun q _ e => .inr (.inl (.inr (.inr e))))) (fun _ _ e => e)
  have k2 := k1.trans ((ud HKB).mono (fun q _ e => .inr (.inr e))) (fun _ _ e => e)
  have k3 := k2.trans ((ud HK3).mono (fun q _ e => .inr (.inr (.inr (.inl e))))) (fun _ _ e => e)
  exact ⟨rfl, TL', ud HV3, k3, ud HP3⟩
end Go.Proofs.YtpbimdkclnekeaaGreat

namespace Go.Proofs.YtpbimdkclnekeaaGreat
open Go.RowKit Go.Maps Go.Shelf
open Go.ChangeMaps (setBlock)
set_option linter.unusedVariables false
set_option maxRecDepth 20000 in
set_option maxHeartbeats 4000000 in
theorem mtick_bad {w : World} {i : Ids} {c : Cf} {ep : Int} {m : MS} (h : MillAt w i c ep m) (n : Int) (hn : n < 1 ∨ 1000 < n ∨ 100000 < m.now + n) (hnow : 0 ≤ m.now ∧ m.now ≤ 100000) :
    Calls Tryz.prog 36 #[.pointer (some ⟨i.x, 0, none⟩), .int .i64 n] w fun e w' => e = .returned (.int .i64 5) ∧ Below w.heap.size w w' := by
  obtain ⟨-, -, -, -, -, -, -, -, c8, -, -⟩ := h.cells
  have hxl := h.lt
  obtain ⟨hn1, hn2⟩ := hnow
  clear h
  by_cases h1 : n < 1
  · clear hn
    go_enter Tryz.func36, Tryz.ntmps36
    go_wp2_with fail
    go_ret
    exact ⟨rfl, Below.refl _ _⟩
  · have h1' : decide (n < 1) = false := by simpa using h1
    by_cases h2 : 1000 < n
    · clear hn
      go_enter Tryz.func36, Tryz.ntmps36
      go_wp2_with fail
      go_ret
      exact ⟨rfl, Below.refl _ _⟩
    · have h2' : decide (1000 < n) = false := by simpa using h2
      have h3 : 100000 < m.now + n := by omega
      clear hn
      go_enter Tryz.func36, Tryz.ntmps36
      go_wp2_with fail
      go_ret
      exact ⟨rfl, Below.refl _ _⟩
set_option maxRecDepth 20000 in
set_option maxHeartbeats 4000000 in
theorem mtick_good {w : World} {i : Ids} {c : Cf} {ep : Int} {m : MS} (h : MillAt w i c ep m) (hc : c.ok) (n : Int) (hn : 1 ≤ n ∧ n ≤ 1000) (hnow : 0 ≤ m.now ∧ m.now + n ≤ 100000) (hI : BInv 1000000 100000 m.TL m.QL) (hL : ∀ p ∈ m.L, inR c p.1) (hlen : m.L.length ≤ 2000) (htl : ∀ TL' QL', Exps (m.now + n) m.TL m.QL TL' QL' → TL'.length ≤ 50000) :
    Calls Tryz.prog 36 #[.pointer (some ⟨i.x, 0, none⟩), .int .i64 n] w fun e w' => e = .returned (.int .i64 0) ∧ ∃ TL1 QL1 TL', MillAt w' i c ep { m with now := m.now + n, TL := TL', QL := QL1 } ∧ Kept (mfoot i) w w' ∧ Exps (m.now + n) m.TL m.QL TL1 QL1 ∧ (∀ p ∈ QL1, m.now + n < p.2.til) ∧ Posted c { m with now := m.now + n, TL := TL1, QL := QL1 } TL' := by
  obtain ⟨-, -, -, -, -, -, -, -, c8, -, -⟩ := h.cells
  have hxl := h.lt
  obtain ⟨hn1, hn2⟩ := hn
  obtain ⟨hw1, hw2⟩ := hnow
  have h1' : decide (n < 1) = false := by simp; omega
  have h2' : decide (1000 < n) = false := by simp; omega
  have h3' : decide (100000 < m.now + n) = false := by simp; omega
  have hfr := fun j => rfree h.head j
  have hS := h.setNow (m.now + n)
  have hkS : Kept (fun k => k = i.x) w (w.setCell ⟨i.x, 8, none⟩ (.int .i64 (m.now + n))) := kept_set (Kept.refl _ _) rfl
  obtain ⟨-, -, -, -, -, -, -, -, d8, -, d10⟩ := hS.cells
  have hsl := hS.lt
  dsimp only at d8
  have HE := hide (expire_any ((hS.later (Below.refl _ _).drew).board) (m.now + n) ⟨by omega, hw2⟩ hI)
  have HS := hide hS
  have HKS := hide hkS
  clear h hS hkS
  go_enter Tryz.func36, Tryz.ntmps36
  go_wp2_with fail
  generalize (w.setCell ⟨i.x, 8, none⟩ (.int .i64 (m.now + n))) = X at *
  refine region_tail 8 (by kernel_rfl) (by kernel_rfl) ?_
  simp only [List.take_succ_cons, List.take_zero, List.drop_succ_cons, List.drop_zero]
  repeat still_step
  refine wpStill_nil ?_
  go_wp2_with (first | (go_at_call 76; refine (ud HE).mono ?_; rintro e V1 ⟨rfl, TL1, QL1, hB1, hK1, hE1, hq1⟩; have HB1 := hide hB1; have HK1 := hide hK1; have HE1 := hide hE1; have HQ1 := hide hq1; clear hB1 hK1 hE1 hq1))
  have hkb : Kept (bfoot i.b i.tb i.qb) X V1 := ((Kept.refl (bfoot i.b i.tb i.qb) X).drew).trans ((ud HK1).mono (fun k _ e => .inr e)) (fun _ _ e => e)
  have hM3 := (ud HS).putBoard (ud HB1) hkb
  have HKB := hide hkb
  have HPO := hide (post_any hM3 hc hL hlen ⟨by show 0 ≤ m.now + n; omega, hw2⟩ (htl _ _ (ud HE1)))
  clear hkb hM3 d8 d10
  go_wp2_with (first | (go_at_call 44; refine (ud HPO).mono ?_; rintro e V3 ⟨rfl, TL', hM4, hK4, hP4⟩; have HV3 := hide hM4; have HK3 := hide hK4; have HP3 := hide hP4; clear hM4 hK4 hP4))
  go_ret
  have k1 : Kept (mfoot i) w X := (ud HKS).mono (fun q _ e => .inl e)
  have k2 := k1.trans ((ud HKB).mono (fun q _ e => .inr (.inr e))) (fun _ _ e => e)
  have k3 := k2.trans ((ud HK3).mono (fun q _ e => .inr (.inr (.inr (.inl e))))) (fun _ _ e => e)
  exact ⟨rfl, TL1, QL1, TL', ud HV3, k3, ud HE1, ud HQ1, ud HP3⟩
end Go.Proofs.YtpbimdkclnekeaaGreat
