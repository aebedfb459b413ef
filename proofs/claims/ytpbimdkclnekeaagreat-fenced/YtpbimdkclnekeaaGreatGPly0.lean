import Derived.Test.YtpbimdkclnekeaaGreatGStp7
import Derived.Test.YtpbimdkclnekeaaGreatGOpd0
import Derived.Test.YtpbimdkclnekeaaGreatGOpen
import Derived.Test.YtpbimdkclnekeaaGreatGSrt0
import Derived.Test.YtpbimdkclnekeaaGreatGCmt0
import Derived.Test.YtpbimdkclnekeaaGreatRows
import Derived.WalkKit
import Derived.ProofKit
import Derived.OpenShut
import Derived.ChangeOld
import Derived.Below
import Derived.SizedLaws

namespace Go.Proofs.YtpbimdkclnekeaaGreat
open Go.RowKit Go.Maps Go.Shelf
set_option linter.unusedVariables false
def plyPost (w : World) (n2 : Nat) (e : Ending) (w' : World) : Prop := ∃ (c : Cf) (p B : Nat) (m : MS) (ns : List Nm), c.ok ∧ c.fits ∧ e = .returned (.pointer (some ⟨p, 0, none⟩)) ∧ w.heap.size ≤ B ∧ Shop w' B p c 1 m ns n2 ∧ Below w.heap.size w w'
set_option maxRecDepth 20000 in
set_option maxHeartbeats 4000000 in
theorem played_any (s le la wi ke qu : Int) (a : Option Addr) (n cap : Nat) (F0 W0 K0 : Nat → Int) (sa : Option Addr) (n2 cap2 : Nat) (G : Nat → KStep) (w : World) (h1 : -9223372036854775808 ≤ s ∧ s ≤ 9223372036854775807) (h2 : -9223372036854775808 ≤ le ∧ le ≤ 9223372036854775807) (h3 : -9223372036854775808 ≤ la ∧ la ≤ 9223372036854775807) (h4 : -9223372036854775808 ≤ wi ∧ wi ≤ 9223372036854775807) (h5 : -9223372036854775808 ≤ ke ∧ ke ≤ 9223372036854775807) (h6 : -9223372036854775808 ≤ qu ∧ qu ≤ 9223372036854775807) (hts : TS w a n F0 W0 K0) (hn : n ≤ 140737488355328) (hF : ∀ i, i < n → -9223372036854775808 ≤ F0 i ∧ F0 i ≤ 9223372036854775807) (hW : ∀ i, i < n → -9223372036854775808 ≤ W0 i ∧ W0 i ≤ 9223372036854775807) (hK : ∀ i, i < n → -9223372036854775808 ≤ K0 i ∧ K0 i ≤ 9223372036854775807) (hks : KS w sa n2 G) (hn2 : n2 < 4398046511104) (hG : ∀ i, i < n2 → (G i).fits) :
    Calls Tryz.prog 14 #[.agg #[.int .i64 s, .int .i64 le, .int .i64 la, .int .i64 wi, .int .i64 ke, .int .i64 qu, .slice a n cap], .slice sa n2 cap2] w (plyPost w n2) := by
  have hb0 : Below w.heap.size w (w.alloc (.cells #[.int .i64 s, .int .i64 le, .int .i64 la, .int .i64 wi, .int .i64 ke, .int .i64 qu, .slice a n cap] 27)) := (Below.refl _ _).alloc (Nat.le_refl _) _
  have q0 := rlast w (.cells #[.int .i64 s, .int .i64 le, .int .i64 la, .int .i64 wi, .int .i64 ke, .int .i64 qu, .slice a n cap] 27)
  have r0 : (w.alloc (.cells #[.int .i64 s, .int .i64 le, .int .i64 la, .int .i64 wi, .int .i64 ke, .int .i64 qu, .slice a n cap] 27)).cell? ⟨w.heap.size, 0, none⟩ = some (.int .i64 s) := by rw [rcell q0]; rfl
  have r1 : (w.alloc (.cells #[.int .i64 s, .int .i64 le, .int .i64 la, .int .i64 wi, .int .i64 ke, .int .i64 qu, .slice a n cap] 27)).cell? ⟨w.heap.size, 1, none⟩ = some (.int .i64 le) := by rw [rcell q0]; rfl
  have r2 : (w.alloc (.cells #[.int .i64 s, .int .i64 le, .int .i64 la, .int .i64 wi, .int .i64 ke, .int .i64 qu, .slice a n cap] 27)).cell? ⟨w.heap.size, 2, none⟩ = some (.int .i64 la) := by rw [rcell q0]; rfl
  have r3 : (w.alloc (.cells #[.int .i64 s, .int .i64 le, .int .i64 la, .int .i64 wi, .int .i64 ke, .int .i64 qu, .slice a n cap] 27)).cell? ⟨w.heap.size, 3, none⟩ = some (.int .i64 wi) := by rw [rcell q0]; rfl
  have r4 : (w.alloc (.cells #[.int .i64 s, .int .i64 le, .int .i64 la, .int .i64 wi, .int .i64 ke, .int .i64 qu, .slice a n cap] 27)).cell? ⟨w.heap.size, 4, none⟩ = some (.int .i64 ke) := by rw [rcell q0]; rfl
  have r5 : (w.alloc (.cells #[.int .i64 s, .int .i64 le, .int .i64 la, .int .i64 wi, .int .i64 ke, .int .i64 qu, .slice a n cap] 27)).cell? ⟨w.heap.size, 5, none⟩ = some (.int .i64 qu) := by rw [rcell q0]; rfl
  have r6 : (w.alloc (.cells #[.int .i64 s, .int .i64 le, .int .i64 la, .int .i64 wi, .int .i64 ke, .int .i64 qu, .slice a n cap] 27)).cell? ⟨w.heap.size, 6, none⟩ = some (.slice a n cap) := by rw [rcell q0]; rfl
  have hrl := lt_of_heap q0
  have HOP := hide (opened_any s le la wi ke qu a n cap F0 W0 K0 (w.alloc (.cells #[.int .i64 s, .int .i64 le, .int .i64 la, .int .i64 wi, .int .i64 ke, .int .i64 qu, .slice a n cap] 27)) h1 h2 h3 h4 h5 h6 (hts.below hb0) hn hF hW hK)
  have HB0 := hide hb0
  have HKS := hide hks
  have HG := hide hG
  clear hb0 q0 h1 h2 h3 h4 h5 h6 hts hF hW hK hks hG
  go_enter Tryz.func14, Tryz.ntmps14
  go_wp2_with fail
  generalize (w.alloc (.cells #[.int .i64 s, .int .i64 le, .int .i64 la, .int .i64 wi, .int .i64 ke, .int .i64 qu, .slice a n cap] 27)) = X at *
  refine (ud HOP).mono ?_
  rintro e w1 ⟨c, p, hc, hf, rfl, hsh, hb1⟩
  have hXB : Below w.heap.size w w1 := (ud HB0).trans (hb1.mono (ud HB0).size)
  have HS1 := hide hsh
  have HB1 := hide hXB
  have hep : i64B 1 := by unfold i64B; omega
  have hxw : w.heap.size ≤ X.heap.size := (ud HB0).size
  clear hsh hb1 hXB HOP r0 r1 r2 r3 r4 r5 r6
  go_wp2_with fail
  go_loopw [6, 7] (fun y _ wr => ∃ (t : Nat) (m : MS) (ns : List Nm), t ≤ n2 ∧ y = .int .i64 t ∧ Shop wr X.heap.size p c 1 m ns t ∧ Below w.heap.size w wr) (fun y _ _ => n2 - (intOf y).toNat)
  case atStart => exact ⟨0, _, [], Nat.zero_le _, rfl, ud HS1, ud HB1⟩
  case round =>
    obtain ⟨t, m, ns, htn, rfl, hsh, hbw⟩ := hrel
    have hni : (n2 : Int) ≤ 4398046511104 := by omega
    by_cases hlt : t < n2
    · have hlti : (t : Int) < n2 := by omega
      obtain ⟨b, off, hsa, hbz, hcl⟩ := ud HKS (by omega)
      subst hsa
      obtain ⟨g0, g1, g2, g3⟩ := hcl t hlt
      have hfit := ud HG t hlt
      generalize G t = o at *
      obtain ⟨kd, oa, ob, ov⟩ := o
      obtain ⟨fa, fb, fv⟩ := hfit
      dsimp only at g0 g1 g2 g3 fa fb fv
      have y0 := (hbw.cell (p := ⟨b, off + t * 4, none⟩) hbz).trans g0
      have y1 := (hbw.cell (p := ⟨b, off + t * 4 + 1, none⟩) hbz).trans g1
      have y2 := (hbw.cell (p := ⟨b, off + t * 4 + 2, none⟩) hbz).trans g2
      have y3 := (hbw.cell (p := ⟨b, off + t * 4 + 3, none⟩) hbz).trans g3
      have ybz := Nat.lt_of_lt_of_le hbz hbw.size
      have HSTEP := hide (sstep_any hsh hc hf hep kd oa ob ov fa fb fv (by omega))
      have HBW := hide hbw
      clear hcl hsh hbw g0 g1 g2 g3
      go_wp2_with fail
      refine (ud HSTEP).mono ?_
      rintro e V2 ⟨rfl, hP⟩
      obtain ⟨m1, m', ns', hA, hA2, hSh, hBel, hC1, hC2⟩ := hP
      have HSH := hide hSh
      have HBZ := hide ((ud HBW).trans (hBel.bel.mono hxw))
      clear hSh hBel hA hA2 hC1 hC2 HSTEP y0 y1 y2 y3
      go_wp2_with fail
      go_roundw
      case rel => exact ⟨t + 1, m', ns', by omega, by go_num, ud HSH, ud HBZ⟩
      case measure => simp [intOf]; omega
    · have hltd : decide ((t : Int) < n2) = false := by simp; omega
      have htn' : t = n2 := by omega
      have HSH := hide hsh
      have HBZ := hide hbw
      clear hsh hbw
      go_wp2_with fail
      go_ret
      exact ⟨c, p, _, m, ns, hc, hf, rfl, hxw, htn' ▸ ud HSH, ud HBZ⟩
end Go.Proofs.YtpbimdkclnekeaaGreat

namespace Go.Proofs.YtpbimdkclnekeaaGreat
open Go.RowKit Go.Maps Go.Shelf
set_option linter.unusedVariables false
theorem KS.below {w w' : World} {a : Option Addr} {n : Nat} {G : Nat → KStep} (h : KS w a n G) (hb : Below w.heap.size w w') : KS w' a n G := fun h0 => by
  obtain ⟨b, off, rfl, hlt, hc⟩ := h h0
  have e : ∀ o, w'.cell? ⟨b, o, none⟩ = w.cell? ⟨b, o, none⟩ := fun o => hb.cell (p := ⟨b, o, none⟩) hlt
  exact ⟨b, off, rfl, Nat.lt_of_lt_of_le hlt hb.size, fun i hi => by simp only [e]; exact hc i hi⟩
def fTok (k j : Nat) (t t' : Tok) : Prop := t' = ⟨t.ep, -1⟩ ∨ (t' = t ∧ ∀ i, i < j → t ≠ ⟨1, (i : Int) + 1⟩)
theorem fTok.out {k : Nat} {t t' : Tok} (h : fTok k k t t') : t' ∉ tokL 1 k := fun hm => by
  obtain ⟨i, hi, e⟩ := List.mem_map.1 hm
  rcases h with rfl | ⟨rfl, h⟩
  · injection e with _ e2; omega
  · exact h i (by simpa using hi) e.symm
theorem fTok.wf {k j : Nat} {t t' : Tok} (h : fTok k j t t') (ht : t.wf) : t'.wf := by
  rcases h with rfl | ⟨rfl, h⟩
  · exact ⟨ht.1, by unfold i64B; simp⟩
  · exact ht
set_option maxRecDepth 20000 in
set_option maxHeartbeats 8000000 in
theorem fenced_any (s le la wi ke qu : Int) (a : Option Addr) (n cap : Nat) (F0 W0 K0 : Nat → Int) (sa : Option Addr) (n2 cap2 : Nat) (G : Nat → KStep) (tk : Tok) (w : World) (h1 : -9223372036854775808 ≤ s ∧ s ≤ 9223372036854775807) (h2 : -9223372036854775808 ≤ le ∧ le ≤ 9223372036854775807) (h3 : -9223372036854775808 ≤ la ∧ la ≤ 9223372036854775807) (h4 : -9223372036854775808 ≤ wi ∧ wi ≤ 9223372036854775807) (h5 : -9223372036854775808 ≤ ke ∧ ke ≤ 9223372036854775807) (h6 : -9223372036854775808 ≤ qu ∧ qu ≤ 9223372036854775807) (hts : TS w a n F0 W0 K0) (hn : n ≤ 140737488355328) (hF : ∀ i, i < n → -9223372036854775808 ≤ F0 i ∧ F0 i ≤ 9223372036854775807) (hW : ∀ i, i < n → -9223372036854775808 ≤ W0 i ∧ W0 i ≤ 9223372036854775807) (hK : ∀ i, i < n → -9223372036854775808 ≤ K0 i ∧ K0 i ≤ 9223372036854775807) (hks : KS w sa n2 G) (hn2 : n2 < 4398046511104) (hG : ∀ i, i < n2 → (G i).fits) (htk : tk.wf) :
    Calls Tryz.prog 8 #[.agg #[.int .i64 s, .int .i64 le, .int .i64 la, .int .i64 wi, .int .i64 ke, .int .i64 qu, .slice a n cap], .slice sa n2 cap2, .agg #[.int .i64 tk.ep, .int .i64 tk.num]] w fun e w' => e = .returned (.bool true) ∧ Below w.heap.size w w' := by
  obtain ⟨q0, q1, hb0, qz⟩ := box2 w (.cells #[.int .i64 s, .int .i64 le, .int .i64 la, .int .i64 wi, .int .i64 ke, .int .i64 qu, .slice a n cap] 27) (.cells #[.int .i64 tk.ep, .int .i64 tk.num] 49)
  have r0 : ((w.alloc (.cells #[.int .i64 s, .int .i64 le, .int .i64 la, .int .i64 wi, .int .i64 ke, .int .i64 qu, .slice a n cap] 27)).alloc (.cells #[.int .i64 tk.ep, .int .i64 tk.num] 49)).cell? ⟨w.heap.size, 0, none⟩ = some (.int .i64 s) := by rw [rcell q0]; rfl
  have r1 : ((w.alloc (.cells #[.int .i64 s, .int .i64 le, .int .i64 la, .int .i64 wi, .int .i64 ke, .int .i64 qu, .slice a n cap] 27)).alloc (.cells #[.int .i64 tk.ep, .int .i64 tk.num] 49)).cell? ⟨w.heap.size, 1, none⟩ = some (.int .i64 le) := by rw [rcell q0]; rfl
  have r2 : ((w.alloc (.cells #[.int .i64 s, .int .i64 le, .int .i64 la, .int .i64 wi, .int .i64 ke, .int .i64 qu, .slice a n cap] 27)).alloc (.cells #[.int .i64 tk.ep, .int .i64 tk.num] 49)).cell? ⟨w.heap.size, 2, none⟩ = some (.int .i64 la) := by rw [rcell q0]; rfl
  have r3 : ((w.alloc (.cells #[.int .i64 s, .int .i64 le, .int .i64 la, .int .i64 wi, .int .i64 ke, .int .i64 qu, .slice a n cap] 27)).alloc (.cells #[.int .i64 tk.ep, .int .i64 tk.num] 49)).cell? ⟨w.heap.size, 3, none⟩ = some (.int .i64 wi) := by rw [rcell q0]; rfl
  have r4 : ((w.alloc (.cells #[.int .i64 s, .int .i64 le, .int .i64 la, .int .i64 wi, .int .i64 ke, .int .i64 qu, .slice a n cap] 27)).alloc (.cells #[.int .i64 tk.ep, .int .i64 tk.num] 49)).cell? ⟨w.heap.size, 4, none⟩ = some (.int .i64 ke) := by rw [rcell q0]; rfl
  have r5 : ((w.alloc (.cells #[.int .i64 s, .int .i64 le, .int .i64 la, .int .i64 wi, .int .i64 ke, .int .i64 qu, .slice a n cap] 27)).alloc (.cells #[.int .i64 tk.ep, .int .i64 tk.num] 49)).cell? ⟨w.heap.size, 5, none⟩ = some (.int .i64 qu) := by rw [rcell q0]; rfl
  have r6 : ((w.alloc (.cells #[.int .i64 s, .int .i64 le, .int .i64 la, .int .i64 wi, .int .i64 ke, .int .i64 qu, .slice a n cap] 27)).alloc (.cells #[.int .i64 tk.ep, .int .i64 tk.num] 49)).cell? ⟨w.heap.size, 6, none⟩ = some (.slice a n cap) := by rw [rcell q0]; rfl
  have hrl := lt_of_heap q0
  have HPL := hide (played_any s le la wi ke qu a n cap F0 W0 K0 sa n2 cap2 G ((w.alloc (.cells #[.int .i64 s, .int .i64 le, .int .i64 la, .int .i64 wi, .int .i64 ke, .int .i64 qu, .slice a n cap] 27)).alloc (.cells #[.int .i64 tk.ep, .int .i64 tk.num] 49)) h1 h2 h3 h4 h5 h6 (hts.below hb0) hn hF hW hK (hks.below hb0) hn2 hG)
  have HB0 := hide hb0
  have Q1 := hide q1
  have QZ := hide qz
  clear hb0 q0 q1 qz h1 h2 h3 h4 h5 h6 hts hF hW hK hks hG
  go_enter Tryz.func8, Tryz.ntmps8
  go_wp2_with fail
  generalize ((w.alloc (.cells #[.int .i64 s, .int .i64 le, .int .i64 la, .int .i64 wi, .int .i64 ke, .int .i64 qu, .slice a n cap] 27)).alloc (.cells #[.int .i64 tk.ep, .int .i64 tk.num] 49)) = X at *
  refine (ud HPL).mono ?_
  rintro e w1 ⟨c, p, B, m, ns, hc, hf, rfl, hB, hsh, hb1⟩
  obtain ⟨s0, k0, hp0, hS0, hk0, ho0, hkj0, hnj0⟩ := hsh
  have hep : i64B 1 := by unfold i64B; omega
  have hz : X.heap.size = w.heap.size + 2 := ud QZ
  have hw1 := hb1.size
  have t1 := (hb1.block (w.heap.size + 1) (by omega)).trans (ud Q1)
  have hB1 : Below w.heap.size w w1 := (ud HB0).trans (hb1.mono (by omega))
  have T1 := hide t1
  have HS0 := hide hS0
  have HO0 := hide ho0
  have HB1 := hide hB1
  obtain ⟨ka, kc, hka⟩ := row_slice hS0.krow
  rw [tokL_len] at hka
  clear t1 hS0 ho0 hB1 hb1 HPL r0 r1 r2 r3 r4 r5 r6
  go_wp2_with fail
  go_loopw [8] (fun y wr => ∃ (j : Nat) (t' : Tok), j ≤ k0 ∧ y = .int .i64 j ∧ wr.heap[w.heap.size + 1]? = some (.cells #[.int .i64 t'.ep, .int .i64 t'.num] 49 (0, 0)) ∧ fTok k0 j tk t' ∧ Kept (fun q => q = w.heap.size + 1) w1 wr) (fun y _ => k0 - (intOf y).toNat)
  case atStart => exact ⟨0, tk, Nat.zero_le _, rfl, ud T1, .inr ⟨rfl, fun i hi => absurd hi (Nat.not_lt_zero _)⟩, Kept.refl _ _⟩
  case round =>
    obtain ⟨j, t', hj, rfl, ht', hft, hK⟩ := hrel
    have hS := (ud HS0).kept hK (fun q hq e => by have := (ud HS0).foot_lo q hq; omega) (fun q hq e => by have := (ud HS0).mlo q hq; omega)
    obtain ⟨s0x, -, -, -, -, -, -, -, s11, -⟩ := hS.cells
    have spl := hS.lt
    rw [hp0] at s0x s11 spl
    rw [hka] at s11
    have hkn : (k0 : Int) ≤ 4398046511104 := by omega
    have htl := lt_of_heap ht'
    have u0 : wr.cell? ⟨w.heap.size + 1, 0, none⟩ = some (.int .i64 t'.ep) := by rw [rcell ht']; rfl
    have u1 : wr.cell? ⟨w.heap.size + 1, 1, none⟩ = some (.int .i64 t'.num) := by rw [rcell ht']; rfl
    have uf := fun i => rfree ht' i
    have HS := hide hS
    have HT' := hide ht'
    have HK := hide hK
    have HFT := hide hft
    by_cases hlt : j < k0
    · have hlti : (j : Int) < k0 := by omega
      have hkr := hS.krow
      rw [hka] at hkr
      obtain ⟨g, cap', hv, hgl, t0, t1⟩ := tok_form hkr (j := j) (by rw [tokL_len]; exact hlt)
      have hvv : ka = some ⟨g, 0, none⟩ := by injection hv
      have e0 : (tokL 1 k0)[j]'(by rw [tokL_len]; exact hlt) = ⟨1, (j : Int) + 1⟩ := by simp [tokL]
      rw [e0] at t0 t1
      dsimp only at t0 t1
      subst hvv
      clear hS ht' hK hft hkr hv e0
      by_cases heq : t' = ⟨1, (j : Int) + 1⟩
      · subst heq
        dsimp only at u0 u1 ⊢
        have b1 : ((1 : Int) == 1) = true := rfl
        have b2 : (((j : Int) + 1) == (j : Int) + 1) = true := by simp
        have hde : tk.ep = 1 := by rcases ud HFT with e | ⟨e, _⟩; (injection e with e1 e2; exact e1.symm); (rw [← e])
        have HDE := hide hde
        have hne : ¬ w.heap.size + 1 = p := by have := (ud HS0).lo; omega
        clear hde
        go_wp2_with fail
        go_still (by kernel_rfl)
        go_wp2_with fail
        go_roundw
        case rel =>
          refine ⟨j + 1, ⟨1, -1⟩, by omega, by go_num, rset (i := 1) (ud HT') _, .inl (by rw [ud HDE]), (kept_set (ud HK) rfl).drew⟩
        case measure => simp [intOf]; omega
      · have hd : (1 == t'.ep) = false ∨ ((1 == t'.ep) = true ∧ (((j : Int) + 1) == t'.num) = false) := by
          obtain ⟨te, tn⟩ := t'
          by_cases e1 : 1 = te
          · refine .inr ⟨by simp [e1], ?_⟩
            have : ¬ (j : Int) + 1 = tn := fun e => heq (by rw [← e1, ← e])
            simpa using this
          · exact .inl (by simpa using e1)
        have HNE := hide heq
        clear heq
        rcases hd with hd | ⟨hd0, hd⟩
        all_goals
          go_wp2_with fail
          go_still (by kernel_rfl)
          go_wp2_with fail
          go_roundw
          case rel =>
            refine ⟨j + 1, t', by omega, by go_num, ud HT', ?_, (ud HK).drew⟩
            rcases ud HFT with e | ⟨e, h⟩
            · exact .inl e
            · refine .inr ⟨e, fun i hi => ?_⟩
              by_cases hij : i = j
              · subst hij; rw [← e]; exact ud HNE
              · exact h i (by omega)
          case measure => simp [intOf]; omega
    · have hjk : j = k0 := by omega
      subst hjk
      have hnl : decide ((j : Int) < j) = false := by simp
      clear hS ht' hK hft
      have ho0 := ud HO0
      have hu0 := ho0.ok.seg.u0 hc
      have hl0 := ho0.ok.seg.len400 hc
      have ht8 := ho0.ok.t800 hc
      have hM := (ud HS).mill
      have hwf := (ud HFT).wf htk
      have hgn : getM m.QL t' = none := ho0.epoch (by rw [hk0]; exact (ud HFT).out)
      have HM := hide hM
      have HU := hide (And.intro hu0.1 (show usedL m.L ≤ 1000 by omega))
      have HNM := hide (And.intro ho0.ok.jobs (show m.TL.length ≤ 1000000 by omega))
      have hLL : m.L.length ≤ 100000 := by omega
      have HKEY := hide (And.intro (fun p hp => (ho0.ok.tasks p hp).key) ho0.ok.nt)
      have HWF := hide (And.intro hwf hgn)
      have HBW := hide (show Below w.heap.size w wr from (ud HB1).trans ⟨(ud HK).os, (ud HK).tape, (ud HK).output, (ud HK).size, fun q hq => (ud HK).block q (Nat.lt_of_lt_of_le hq (ud HB1).size) (by omega)⟩)
      have hxp : ¬ s0.i.x = p := fun e => (ud HS).sep s0.i.x (.inl (by rw [e, hp0])) (.inl rfl)
      have hpt : ¬ p = w.heap.size + 1 := by have := (ud HS).lo; omega
      clear hM hwf hgn hu0 hl0 ht8 ho0 uf HFT HS0 T1 HB1 HK hep hnj0 hkj0 hk0 hB hw1 hz QZ Q1 HB0 hrl hn hn2 htk hf hkn HT'
      go_wp2_with fail
      refine (mstats_any (ud HM) hc (ud HU) hLL).mono ?_
      rintro e V1 ⟨rfl, hb1⟩
      clear s11
      have hz1 : Below wr.heap.size wr (V1.alloc (.cells #[.int .i64 m.now, .int .i64 (usedL m.L), .int .i64 (tightI (tightB (usedL m.L) c.qu)), .int .i64 1, .int .i64 (countL m.L 1), .int .i64 (countL m.L 2), .int .i64 (countL m.L 3), .int .i64 m.Gl.length] 37)) := hb1.alloc hb1.size _
      have a0 := (hz1.cell (p := ⟨p, 0, none⟩) spl).trans s0x
      have al := Nat.lt_of_lt_of_le spl hz1.size
      have HW1 := hide (rlast V1 (.cells #[.int .i64 m.now, .int .i64 (usedL m.L), .int .i64 (tightI (tightB (usedL m.L) c.qu)), .int .i64 1, .int .i64 (countL m.L 1), .int .i64 (countL m.L 2), .int .i64 (countL m.L 3), .int .i64 m.Gl.length] 37))
      have hv1 : V1.heap.size < (V1.alloc (.cells #[.int .i64 m.now, .int .i64 (usedL m.L), .int .i64 (tightI (tightB (usedL m.L) c.qu)), .int .i64 1, .int .i64 (countL m.L 1), .int .i64 (countL m.L 2), .int .i64 (countL m.L 3), .int .i64 m.Gl.length] 37)).heap.size := by rw [rsize]; omega
      have HZ1 := hide hz1
      have HJ1 := hide (mjobs_any ((ud HM).later hz1) (ud HNM).1 (ud HNM).2)
      clear hb1 hz1
      go_wp2_with fail
      generalize (V1.alloc (.cells #[.int .i64 m.now, .int .i64 (usedL m.L), .int .i64 (tightI (tightB (usedL m.L) c.qu)), .int .i64 1, .int .i64 (countL m.L 1), .int .i64 (countL m.L 2), .int .i64 (countL m.L 3), .int .i64 m.Gl.length] 37)) = Z1 at *
      refine (ud HJ1).mono ?_
      rintro e V2 ⟨ts, a2, cap2', hJ, rfl, hrow, hb2⟩
      have hz2 := (ud HZ1).trans (hb2.mono (ud HZ1).size)
      have d0 := (hz2.cell (p := ⟨p, 0, none⟩) spl).trans s0x
      have dl := Nat.lt_of_lt_of_le spl hz2.size
      have d1 := (hz2.cell (p := ⟨w.heap.size + 1, 0, none⟩) htl).trans u0
      have d2 := (hz2.cell (p := ⟨w.heap.size + 1, 1, none⟩) htl).trans u1
      have dt := Nat.lt_of_lt_of_le htl hz2.size
      have HW2 := hide ((hb2.block _ hv1).trans (ud HW1))
      have hv2 := Nat.lt_of_lt_of_le hv1 hb2.size
      have HJ := hide hJ
      have HR2 := hide hrow
      have HZ2 := hide hz2
      have HC := hide (commit_no ((ud HM).later hz2.drew) t' (ud HWF).1 (ud HWF).2)
      clear hb2 hz2 hJ hrow HJ1 a0 al hv1 HW1
      go_wp2_with fail
      refine region_tail 5 (by kernel_rfl) (by kernel_rfl) ?_
      simp only [List.take_succ_cons, List.take_zero, List.drop_succ_cons, List.drop_zero]
      repeat still_step
      refine wpStill_nil ?_
      go_wp2_with fail
      refine (ud HC).mono ?_
      rintro e V3 ⟨rfl, hb3'⟩
      have hb3 := bel_dd hb3'
      clear hb3'
      have hz3 := (ud HZ2).trans (hb3.mono (ud HZ2).size)
      have e0 := (hz3.cell (p := ⟨p, 0, none⟩) spl).trans s0x
      have el := Nat.lt_of_lt_of_le spl hz3.size
      have e1 := (hz3.cell (p := ⟨w.heap.size + 1, 0, none⟩) htl).trans u0
      have e2 := (hz3.cell (p := ⟨w.heap.size + 1, 1, none⟩) htl).trans u1
      have et := Nat.lt_of_lt_of_le htl hz3.size
      have HW3 := hide ((hb3.block _ hv2).trans (ud HW2))
      have hv3 := Nat.lt_of_lt_of_le hv2 hb3.size
      have HR3 := hide (owns_kept (ud HR2) (Kept.of_below (f := fun _ => False) hb3) (fun _ _ e => e))
      have HZ3 := hide hz3
      have HF := hide (fail_no ((ud HM).later hz3.drew) t' (ud HWF).1 (ud HWF).2)
      clear hb3 hz3 HC HR2 HW2 hv2 d0 dl d1 d2 dt
      go_wp2_with fail
      refine region_tail 5 (by kernel_rfl) (by kernel_rfl) ?_
      simp only [List.take_succ_cons, List.take_zero, List.drop_succ_cons, List.drop_zero]
      repeat still_step
      refine wpStill_nil ?_
      go_wp2_with fail
      refine (ud HF).mono ?_
      rintro e V4 ⟨rfl, hb4'⟩
      have hb4 := bel_dd hb4'
      clear hb4'
      have hz4 := (ud HZ3).trans (hb4.mono (ud HZ3).size)
      have f0 := (hz4.cell (p := ⟨p, 0, none⟩) spl).trans s0x
      have fl := Nat.lt_of_lt_of_le spl hz4.size
      have HW4 := hide ((hb4.block _ hv3).trans (ud HW3))
      have hv4 := Nat.lt_of_lt_of_le hv3 hb4.size
      have HR4 := hide (owns_kept (ud HR3) (Kept.of_below (f := fun _ => False) hb4) (fun _ _ e => e))
      have HZ4 := hide hz4
      have HS5 := hide (mstats_any ((ud HM).later hz4) hc (ud HU) hLL)
      clear hb4 hz4 HF HR3 HW3 hv3 e0 el e1 e2 et
      go_wp2_with fail
      refine (ud HS5).mono ?_
      rintro e V5 ⟨rfl, hb5⟩
      have hba5 : Below V4.heap.size V4 (V5.alloc (.cells #[.int .i64 m.now, .int .i64 (usedL m.L), .int .i64 (tightI (tightB (usedL m.L) c.qu)), .int .i64 1, .int .i64 (countL m.L 1), .int .i64 (countL m.L 2), .int .i64 (countL m.L 3), .int .i64 m.Gl.length] 37)) := hb5.alloc hb5.size _
      have hz5 := (ud HZ4).trans (hba5.mono (ud HZ4).size)
      have g0 := (hz5.cell (p := ⟨p, 0, none⟩) spl).trans s0x
      have gl := Nat.lt_of_lt_of_le spl hz5.size
      have HW5 := hide ((hba5.block _ hv4).trans (ud HW4))
      have hv5 := Nat.lt_of_lt_of_le hv4 hba5.size
      have HN5 := hide (rlast V5 (.cells #[.int .i64 m.now, .int .i64 (usedL m.L), .int .i64 (tightI (tightB (usedL m.L) c.qu)), .int .i64 1, .int .i64 (countL m.L 1), .int .i64 (countL m.L 2), .int .i64 (countL m.L 3), .int .i64 m.Gl.length] 37))
      have hn5 : V5.heap.size < (V5.alloc (.cells #[.int .i64 m.now, .int .i64 (usedL m.L), .int .i64 (tightI (tightB (usedL m.L) c.qu)), .int .i64 1, .int .i64 (countL m.L 1), .int .i64 (countL m.L 2), .int .i64 (countL m.L 3), .int .i64 m.Gl.length] 37)).heap.size := by rw [rsize]; omega
      have hvv : ¬ V1.heap.size = V5.heap.size := by have := hb5.size; omega
      have HR5 := hide (owns_kept (ud HR4) (Kept.of_below (f := fun _ => False) hba5) (fun _ _ e => e))
      have HZ5 := hide hz5
      have HJ5 := hide (mjobs_any ((ud HM).later hz5) (ud HNM).1 (ud HNM).2)
      clear hb5 hba5 hz5 HS5 HR4 HW4 hv4 f0 fl
      go_wp2_with fail
      generalize (V5.alloc (.cells #[.int .i64 m.now, .int .i64 (usedL m.L), .int .i64 (tightI (tightB (usedL m.L) c.qu)), .int .i64 1, .int .i64 (countL m.L 1), .int .i64 (countL m.L 2), .int .i64 (countL m.L 3), .int .i64 m.Gl.length] 37)) = Z5 at *
      refine (ud HJ5).mono ?_
      rintro e V6 ⟨ts', a6, cap6, hJ', rfl, hrow', hb6⟩
      have hts : ts' = ts := hJ'.one (ud HJ) (ud HKEY).1 (ud HKEY).2
      subst hts
      have hz6 := (ud HZ5).trans (hb6.mono (ud HZ5).size)
      have HW6 := hide ((hb6.block _ hv5).trans (ud HW5))
      have hv6 := Nat.lt_of_lt_of_le hv5 hb6.size
      have HN6 := hide ((hb6.block _ hn5).trans (ud HN5))
      have hn6 := Nat.lt_of_lt_of_le hn5 hb6.size
      have HA6 := hide (owns_kept (ud HR5) (Kept.of_below (f := fun _ => False) hb6) (fun _ _ e => e))
      have HB6 := hide hrow'
      have HZ6 := hide ((ud HBW).trans (hz6.mono (ud HBW).size))
      have htl : ts'.length ≤ 1000000 := by rw [hJ'.len]; exact (ud HNM).2
      clear hb6 hz6 hJ' hrow' HJ5 HR5 HW5 HN5 hv5 hn5 g0 gl HZ1 HZ2 HZ3 HZ4 HZ5 HJ HM HU HNM HKEY HWF HS HO0 s0x u0 u1 spl
      generalize hwb : V1.heap.size = wb at *
      generalize hnb : V5.heap.size = nb at *
      clear hwb hnb
      have w0 : V6.cell? ⟨wb, 0, none⟩ = some (.int .i64 m.now) := by rw [rcell (ud HW6)]; rfl
      have v0 : V6.cell? ⟨nb, 0, none⟩ = some (.int .i64 m.now) := by rw [rcell (ud HN6)]; rfl
      have w1 : V6.cell? ⟨wb, 1, none⟩ = some (.int .i64 (usedL m.L)) := by rw [rcell (ud HW6)]; rfl
      have v1 : V6.cell? ⟨nb, 1, none⟩ = some (.int .i64 (usedL m.L)) := by rw [rcell (ud HN6)]; rfl
      have w2 : V6.cell? ⟨wb, 2, none⟩ = some (.int .i64 (tightI (tightB (usedL m.L) c.qu))) := by rw [rcell (ud HW6)]; rfl
      have v2 : V6.cell? ⟨nb, 2, none⟩ = some (.int .i64 (tightI (tightB (usedL m.L) c.qu))) := by rw [rcell (ud HN6)]; rfl
      have w3 : V6.cell? ⟨wb, 3, none⟩ = some (.int .i64 1) := by rw [rcell (ud HW6)]; rfl
      have v3 : V6.cell? ⟨nb, 3, none⟩ = some (.int .i64 1) := by rw [rcell (ud HN6)]; rfl
      have w4 : V6.cell? ⟨wb, 4, none⟩ = some (.int .i64 (countL m.L 1)) := by rw [rcell (ud HW6)]; rfl
      have v4 : V6.cell? ⟨nb, 4, none⟩ = some (.int .i64 (countL m.L 1)) := by rw [rcell (ud HN6)]; rfl
      have w5 : V6.cell? ⟨wb, 5, none⟩ = some (.int .i64 (countL m.L 2)) := by rw [rcell (ud HW6)]; rfl
      have v5 : V6.cell? ⟨nb, 5, none⟩ = some (.int .i64 (countL m.L 2)) := by rw [rcell (ud HN6)]; rfl
      have w6 : V6.cell? ⟨wb, 6, none⟩ = some (.int .i64 (countL m.L 3)) := by rw [rcell (ud HW6)]; rfl
      have v6 : V6.cell? ⟨nb, 6, none⟩ = some (.int .i64 (countL m.L 3)) := by rw [rcell (ud HN6)]; rfl
      have w7 : V6.cell? ⟨wb, 7, none⟩ = some (.int .i64 m.Gl.length) := by rw [rcell (ud HW6)]; rfl
      have v7 : V6.cell? ⟨nb, 7, none⟩ = some (.int .i64 m.Gl.length) := by rw [rcell (ud HN6)]; rfl
      have HLT := hide hlt
      clear hka hp0 hj hlt hnl hLL hc hxp hpt
      go_wp2_with fail
      clear w0 v0 w1 v1 w2 v2 w3 v3 w4 v4 w5 v5 w6 v6 w7 v7 HW6 HN6 hv6 hn6 hvv
      go_loopw [15] (fun y wr => ∃ i : Nat, i ≤ ts'.length ∧ y = .int .i64 i ∧ Below V6.heap.size V6 wr) (fun y _ => ts'.length - (intOf y).toNat)
      case atStart => exact ⟨0, Nat.zero_le _, rfl, Below.refl _ _⟩
      case round =>
        obtain ⟨i, hi, rfl, hb⟩ := hrel
        by_cases hil : i < ts'.length
        · have hili : (i : Int) < ts'.length := by omega
          obtain ⟨x, hx⟩ := rget_of_lt hil
          obtain ⟨ga, ca, hva, hgal, hca⟩ := job_at (owns_kept (ud HA6) (Kept.of_below (f := fun _ => False) hb) (fun _ _ e => e)) hx
          obtain ⟨gb, cb, hvb, hgbl, hcb⟩ := job_at (owns_kept (ud HB6) (Kept.of_below (f := fun _ => False) hb) (fun _ _ e => e)) hx
          have ea : a2 = some ⟨ga, 0, none⟩ := by injection hva
          have eb : a6 = some ⟨gb, 0, none⟩ := by injection hvb
          subst ea
          subst eb
          have c0 : wr.cell? ⟨ga, i * 11, none⟩ = some (.int .i64 x.kd) := hca 0 (by omega)
          have d0 : wr.cell? ⟨gb, i * 11, none⟩ = some (.int .i64 x.kd) := hcb 0 (by omega)
          have c1 : wr.cell? ⟨ga, i * 11 + 1, none⟩ = some (.int .i64 x.s.t) := hca 1 (by omega)
          have d1 : wr.cell? ⟨gb, i * 11 + 1, none⟩ = some (.int .i64 x.s.t) := hcb 1 (by omega)
          have c2 : wr.cell? ⟨ga, i * 11 + 2, none⟩ = some (.int .i64 x.s.ser) := hca 2 (by omega)
          have d2 : wr.cell? ⟨gb, i * 11 + 2, none⟩ = some (.int .i64 x.s.ser) := hcb 2 (by omega)
          have c3 : wr.cell? ⟨ga, i * 11 + 3, none⟩ = some (.int .i64 x.s.win) := hca 3 (by omega)
          have d3 : wr.cell? ⟨gb, i * 11 + 3, none⟩ = some (.int .i64 x.s.win) := hcb 3 (by omega)
          have c4 : wr.cell? ⟨ga, i * 11 + 4, none⟩ = some (.int .i64 x.since) := hca 4 (by omega)
          have d4 : wr.cell? ⟨gb, i * 11 + 4, none⟩ = some (.int .i64 x.since) := hcb 4 (by omega)
          have c5 : wr.cell? ⟨ga, i * 11 + 5, none⟩ = some (.int .i64 x.tries) := hca 5 (by omega)
          have d5 : wr.cell? ⟨gb, i * 11 + 5, none⟩ = some (.int .i64 x.tries) := hcb 5 (by omega)
          have c6 : wr.cell? ⟨ga, i * 11 + 6, none⟩ = some (.int .i64 x.rest) := hca 6 (by omega)
          have d6 : wr.cell? ⟨gb, i * 11 + 6, none⟩ = some (.int .i64 x.rest) := hcb 6 (by omega)
          have c7 : wr.cell? ⟨ga, i * 11 + 7, none⟩ = some (.int .i64 (jobO m.QL x).1.ep) := hca 7 (by omega)
          have d7 : wr.cell? ⟨gb, i * 11 + 7, none⟩ = some (.int .i64 (jobO m.QL x).1.ep) := hcb 7 (by omega)
          have c8 : wr.cell? ⟨ga, i * 11 + 8, none⟩ = some (.int .i64 (jobO m.QL x).1.num) := hca 8 (by omega)
          have d8 : wr.cell? ⟨gb, i * 11 + 8, none⟩ = some (.int .i64 (jobO m.QL x).1.num) := hcb 8 (by omega)
          have c9 : wr.cell? ⟨ga, i * 11 + 9, none⟩ = some (.int .i64 (jobO m.QL x).2.1) := hca 9 (by omega)
          have d9 : wr.cell? ⟨gb, i * 11 + 9, none⟩ = some (.int .i64 (jobO m.QL x).2.1) := hcb 9 (by omega)
          have c10 : wr.cell? ⟨ga, i * 11 + 10, none⟩ = some (.int .i64 (jobO m.QL x).2.2) := hca 10 (by omega)
          have d10 : wr.cell? ⟨gb, i * 11 + 10, none⟩ = some (.int .i64 (jobO m.QL x).2.2) := hcb 10 (by omega)
          have HBB := hide hb
          clear hb hca hcb hva hvb hx
          generalize jobO m.QL x = o at *
          go_wp2_with fail
          go_still (by kernel_rfl)
          go_wp2_with fail
          go_roundw
          case rel => exact ⟨i + 1, by omega, by go_num, (ud HBB).drew⟩
          case measure => simp [intOf]; omega
        · have hii : i = ts'.length := by omega
          subst hii
          have hnl : decide ((ts'.length : Int) < ts'.length) = false := by simp
          have HBB := hide hb
          clear hb
          go_wp2_with fail
          go_ret
          exact ⟨rfl, (ud HZ6).trans ((ud HBB).mono (ud HZ6).size)⟩
end Go.Proofs.YtpbimdkclnekeaaGreat

namespace Go.Proofs.YtpbimdkclnekeaaGreat
open Go.ChangeShapes Go.WideShapes Go.ChangeAt Go.RowKit
set_option linter.unusedVariables false
theorem Tryz.cellsToken : Tryz.prog.cellsOf 49 = 2 := by kernel_rfl
set_option maxRecDepth 20000 in
theorem kopen_token {H : Type} {enc : TypeId × Value → H} {w : World} {held : Bool} {fuel : Nat} {cs : List Value} {x : DataW H × List MemPlace} (h : DataW.trod enc Tryz.prog w 0 (fun _ => true) held fuel 49 cs = some x) :
    ∃ tk : Tok, cs = [.int .i64 tk.ep, .int .i64 tk.num] ∧ tk.wf := by
  obtain ⟨xs, m, _, rfl, hl, hlen, hf⟩ := DataW.trod_struct Tryz.underlying49 h
  rw [Tryz.cellsToken] at hl
  match cs, hl with
  | [c0, c1], _ =>
    match xs, hlen with
    | [y0, y1], _ =>
      have q0 : DataW.trod enc Tryz.prog w 0 (fun _ => true) held m 3 [c0] = some y0 := by have h : DataW.trod enc Tryz.prog w 0 (fun _ => true) held m 3 (([c0, c1].drop 0).take (Tryz.prog.cellsOf 3)) = some y0 := hf 0 _ rfl; rw [Tryz.cellsInt] at h; exact h
      have q1 : DataW.trod enc Tryz.prog w 0 (fun _ => true) held m 3 [c1] = some y1 := by have h : DataW.trod enc Tryz.prog w 0 (fun _ => true) held m 3 (([c0, c1].drop 1).take (Tryz.prog.cellsOf 3)) = some y1 := hf 1 _ rfl; rw [Tryz.cellsInt] at h; exact h
      obtain ⟨a0, e0, _, w0⟩ := DataW.trod_int Tryz.underlying3 q0
      obtain ⟨a1, e1, _, w1⟩ := DataW.trod_int Tryz.underlying3 q1
      simp at e0 e1
      exact ⟨⟨a0, a1⟩, by rw [e0, e1], by unfold Tok.wf i64B; have h0 := kwf_i64 w0; have h1 := kwf_i64 w1; dsimp only; omega⟩
theorem fencedOwn : ownKnob Tryz.prog.godebug = none := by kernel_rfl
theorem fencedLaidOut : laidOutB Tryz.prog = true := by kernel_rfl
set_option maxRecDepth 100000 in
theorem fencedLifted (os : Os) (started : os.Started) (H : Type) (enc : TypeId × Value → H) :
    ReturnsInHanded {} Tryz.checked os 8 .any (Rows.fencedSpec.pre6 enc Tryz.prog Tryz.f8 Rows.fencedRow.domain false) (Rows.fencedSpec.post enc Tryz.prog Tryz.f8 false true false false) := by
  refine returnsInHanded_of_change_sized (C := Tryz.checked) fencedOwn started (by kernel_rfl) Tryz.func8
    (ChangeSpec.witness6 (enc := enc) (C := Tryz.checked) false ⟨#[], #[.agg #[.int .i64 0, .int .i64 0, .int .i64 0, .int .i64 0, .int .i64 0, .int .i64 0, .slice none 0 0], .slice none 0 0, .agg #[.int .i64 0, .int .i64 0]], []⟩ 8 (by kernel_rfl) (by kernel_rfl) (by kernel_rfl) (by kernel_rfl)) ?_
  intro W base args ds gs before hval0 hW hcnd hsz0 _
  have hval : ∀ (j : Nat) t v, Tryz.f8.params[j]? = some t → args[j]? = some v → Value.okWide Tryz.prog W .any base t v := hval0
  have hsz : (DataW.weightsEach Tryz.prog (Tryz.f8.params.toList ++ Rows.fencedSpec.plain.varTypes Tryz.prog) (ds ++ gs)).all (· ≤ reachBytes) = true := hsz0
  have hW' := hW
  obtain ⟨p, q, hA0, hV, rfl, hfz, hnd⟩ := hW
  have hA : DataW.TrodAll enc Tryz.prog W 0 (fun _ => true) true Tryz.f8.params.toList args.toList ds p := hA0
  rw [Tryz.params8] at hA hval hsz
  obtain ⟨v0, vs0, d0, ds0, p0, q0, hargs, rfl, rfl, h0, r0⟩ := trodAll_cons hA
  obtain ⟨v1, vs1, d1, ds1, p1, q1, rfl, rfl, rfl, h1, r1⟩ := trodAll_cons r0
  obtain ⟨v2, vs2, d2, ds2, p2, q2, rfl, rfl, rfl, h2, r2⟩ := trodAll_cons r1
  obtain ⟨rfl, rfl, rfl⟩ := trodAll_nil r2
  obtain rfl : args = #[v0, v1, v2] := by cases args; simp_all
  obtain ⟨rfl, rfl⟩ := trodVars_none hV
  obtain ⟨cs, rfl, hcs⟩ := okWide_struct Tryz.underlying27 (hval 0 27 v0 rfl rfl)
  obtain ⟨a1, len1, cap1, rfl⟩ := okWide_slice Tryz.underlying28 (hval 1 28 v1 rfl rfl)
  obtain ⟨cs2, rfl, hcs2⟩ := okWide_struct Tryz.underlying49 (hval 2 49 v2 rfl rfl)
  have k0 := h0
  have k1 := h1
  have k2 := h2
  have lt0 : ∀ x ∈ p0, x.block < W.heap.size := by obtain ⟨m, hm⟩ := k0; exact DataW.trod_lt m _ _ _ hm
  have lt1 : ∀ x ∈ p1, x.block < W.heap.size := by obtain ⟨m, hm⟩ := k1; exact DataW.trod_lt m _ _ _ hm
  have lt2 : ∀ x ∈ p2, x.block < W.heap.size := by obtain ⟨m, hm⟩ := k2; exact DataW.trod_lt m _ _ _ hm
  obtain ⟨fuel, hf⟩ := h0
  obtain ⟨fuel1, hf1⟩ := h1
  obtain ⟨fuel2, hf2⟩ := h2
  have hf' : DataW.trod enc Tryz.prog W 0 (fun _ => true) true fuel 27 cs.toList = some (d0, p0) := by simpa [Value.cells] using hf
  have hf1' : DataW.trod enc Tryz.prog W 0 (fun _ => true) true fuel1 28 [.slice a1 len1 cap1] = some (d1, p1) := by simpa [Value.cells] using hf1
  obtain ⟨s, le, la, wi, ke, qu, a, n, cap, Fr, Wd, K, hcl, hts, ⟨b1, b2, b3, b4, b5, b6⟩, ⟨hF, hWd, hK⟩, hwt⟩ := kopen_config hf'
  have hcs' : cs = #[.int .i64 s, .int .i64 le, .int .i64 la, .int .i64 wi, .int .i64 ke, .int .i64 qu, .slice a n cap] := by cases cs; simp_all
  have hn : n ≤ 140737488355328 := by
    have := hwt (fun y hy => by
      have := List.all_eq_true.1 hsz y (DataW.weights_mem_each (j := 0) rfl rfl y hy)
      simpa using this)
    simp only [reachBytes] at this
    omega
  obtain ⟨a2, n2, cap2, G, hc2, hks, hn2, hG⟩ := kopen_steps hf1' (fun y hy => by
    have := List.all_eq_true.1 hsz y (DataW.weights_mem_each (j := 1) rfl rfl y hy)
    simpa using this)
  simp at hc2
  obtain ⟨rfl, rfl, rfl⟩ := hc2
  have hf2' : DataW.trod enc Tryz.prog W 0 (fun _ => true) true fuel2 49 cs2.toList = some (d2, p2) := by simpa [Value.cells] using hf2
  obtain ⟨tk, hcl2, htk⟩ := kopen_token hf2'
  have hcs2' : cs2 = #[.int .i64 tk.ep, .int .i64 tk.num] := by cases cs2; simp_all
  clear hf2 hf2'
  clear hA0 hval0 hf hf' hwt hf1 hf1'
  refine (show Calls Tryz.prog 8 #[.agg cs, .slice a1 len1 cap1, .agg cs2] W _ from hcs' ▸ hcs2' ▸ fenced_any s le la wi ke qu a n cap Fr Wd K a1 len1 cap1 G tk W b1 b2 b3 b4 b5 b6 hts hn hF hWd hK hks hn2 hG htk).mono fun e W' ⟨he, bel⟩ => ?_
  subst he
  exact ⟨_, rfl, _, _, _, [], _, [], hW', trodAll_mk1 (shut_bool Tryz.underlying4 _), (trodAll_cons_mk (Below.trod fencedLaidOut (by kernel_rfl) (of_decide_eq_true (by kernel_rfl)) k0 bel lt0) (trodAll_cons_mk (Below.trod fencedLaidOut (by kernel_rfl) (of_decide_eq_true (by kernel_rfl)) k1 bel lt1) (trodAll_cons_mk (Below.trod fencedLaidOut (by kernel_rfl) (of_decide_eq_true (by kernel_rfl)) k2 bel lt2) trodAll_mk0))), rfl, bel.frame _, fun h => by cases h⟩
theorem fenced_holds : Rows.FencedSaid :=
  OpenClaim.holds_of_wide 8 Tryz.f8 rfl rfl rfl rfl rfl rfl rfl ⟨rfl, rfl, rfl, rfl, rfl⟩ rfl rfl rfl rfl rfl (by kernel_rfl) Tryz.func8 (by kernel_rfl)
    (of_decide_eq_true (by kernel_rfl)) (by unfold Func.isWrapper; first | (rw [if_pos (by decide +kernel)]; kernel_rfl) | (rw [if_neg (by decide +kernel)]; exact ⟨rfl, rfl⟩))
    (fun os started H enc _ => fencedLifted os started H enc)
#print axioms fenced_holds
end Go.Proofs.YtpbimdkclnekeaaGreat
