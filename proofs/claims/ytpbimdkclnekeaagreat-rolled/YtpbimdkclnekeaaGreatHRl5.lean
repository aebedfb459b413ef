import Derived.Test.YtpbimdkclnekeaaGreatHStp4
import Derived.Test.YtpbimdkclnekeaaGreatHOpd0
import Derived.Test.YtpbimdkclnekeaaGreatHOpen
import Derived.Test.YtpbimdkclnekeaaGreatHRl3
import Derived.Test.YtpbimdkclnekeaaGreatRows
import Derived.WalkKit
import Derived.ProofKit
import Derived.OpenShut
import Derived.ChangeOld
import Derived.Below
import Derived.SizedLaws

namespace Go.Proofs.YtpbimdkclnekeaaGreat
open Go.RowKit Go.Maps Go.Shelf
set_option linter.unusedVariables false
theorem RInv.acts {c : Cf} {ep : Int} {m m1 m' : MS} {ns ns' : List Nm} (hc : c.ok) (hf : c.fits) (hs : SOk c ep m ns.length) (h : RInv c m ns) (hlen : ns.length + 1 < 9223372036854775807) (ha : Act1 c ep m ns m1 ns') (hb : Act1 c ep m1 ns' m' ns') : RInv c m' ns' := by
  have h1 := ha.nums
  exact (h.act hc hf hs (by omega) ha).act hc hf (ha.ok hc hf hs) (by omega) hb
set_option maxRecDepth 20000 in
set_option maxHeartbeats 4000000 in
theorem rolled_any (s le la wi ke qu : Int) (a : Option Addr) (n cap : Nat) (F0 W0 K0 : Nat → Int) (sa : Option Addr) (n2 cap2 : Nat) (G : Nat → KStep) (w : World) (h1 : -9223372036854775808 ≤ s ∧ s ≤ 9223372036854775807) (h2 : -9223372036854775808 ≤ le ∧ le ≤ 9223372036854775807) (h3 : -9223372036854775808 ≤ la ∧ la ≤ 9223372036854775807) (h4 : -9223372036854775808 ≤ wi ∧ wi ≤ 9223372036854775807) (h5 : -9223372036854775808 ≤ ke ∧ ke ≤ 9223372036854775807) (h6 : -9223372036854775808 ≤ qu ∧ qu ≤ 9223372036854775807) (hts : TS w a n F0 W0 K0) (hn : n ≤ 140737488355328) (hF : ∀ i, i < n → -9223372036854775808 ≤ F0 i ∧ F0 i ≤ 9223372036854775807) (hW : ∀ i, i < n → -9223372036854775808 ≤ W0 i ∧ W0 i ≤ 9223372036854775807) (hK : ∀ i, i < n → -9223372036854775808 ≤ K0 i ∧ K0 i ≤ 9223372036854775807) (hks : KS w sa n2 G) (hn2 : n2 < 4398046511104) (hG : ∀ i, i < n2 → (G i).fits) :
    Calls Tryz.prog 5 #[.agg #[.int .i64 s, .int .i64 le, .int .i64 la, .int .i64 wi, .int .i64 ke, .int .i64 qu, .slice a n cap], .slice sa n2 cap2] w fun e w' => e = .returned (.bool true) ∧ Below w.heap.size w w' := by
  have hb0 : Below w.heap.size w (w.alloc (.cells #[.int .i64 s, .int .i64 le, .int .i64 la, .int .i64 wi, .int .i64 ke, .int .i64 qu, .slice a n cap] 27)) := (Below.refl _ _).alloc (Nat.le_refl _) _
  have q0 := rlast w (.cells #[.int .i64 s, .int .i64 le, .int .i64 la, .int .i64 wi, .int .i64 ke, .int .i64 qu, .slice a n cap] 27)
  have r0 : (w.alloc (.cells #[.int .i64 s, .int .i64 le, .int .i64 la, .int .i64 wi, .int .i64 ke, .int .i64 qu, .slice a n cap] 27)).cell? ⟨w.heap.size, 0, none⟩ = some (.int .i64 s) := by rw [rcell q0]; rfl
  have r1 : (w.alloc (.cells #[.int .i64 s, .int .i64 le, .int .i64 la, .int .i64 wi, .int .i64 ke, .int .i64 qu, .slice a n cap] 27)).cell? ⟨w.heap.size, 1, none⟩ = some (.int .i64 le) := by rw [rcell q0]; rfl
  have r2 : (w.alloc (.cells #[.int .i64 s, .int .i64 le, .int .i64 la, .int .i64 wi, .int .i64 ke, .int .i64 qu, .slice a n cap] 27)).cell? ⟨w.heap.size, 2, none⟩ = some (.int .i64 la) := by rw [rcell q0]; rfl
  have r3 : (w.alloc (.cells #[.int .i64 s, .int .i64 le, .int .i64 la, .int .i64 wi, .int .i64 ke, .int .i64 qu, .slice a n cap] 27)).cell? ⟨w.heap.size, 3, none⟩ = some (.int .i64 wi) := by rw [rcell q0]; rfl
  have r4 : (w.alloc (.cells #[.int .i64 s, .int .i64 le, .int .i64 la, .int .i64 wi, .int .i64 ke, .int .i64 qu, .slice a n cap] 27)).cell? ⟨w.heap.size, 4, none⟩ = some (.int .i64 ke) := by rw [rcell q0]; rfl
  have r5 : (w.alloc (.cells #[.int .i64 s, .int .i64 le, .int .i64 la, .int .i64 wi, .int .i64 ke, .int .i64 qu, .slice a n cap] 27)).cell? ⟨w.heap.size, 5, none⟩ = some (.int .i64 qu) := by rw [rcell q0]; rfl
  have r6 : (w.alloc (.cells #[.int .i64 s, .int .i64 le, .int .i64 la, .int .i64 wi, .int .i64 ke, .int .i64 qu, .slice a n cap] 27)).cell? ⟨w.heap.size, 6, none⟩ = some (.slice a n cap) := by rw [rcell q0]; rfl
  have hrl := lt_of_heap q0
  have HOP := hide (opened_any s le la wi ke qu a n cap F0 W0 K0 (w.alloc (.cells #[.int .i64 s, .int .i64 le, .int .i64 la, .int .i64 wi, .int .i64 ke, .int .i64 qu, .slice a n cap] 27)) h1 h2 h3 h4 h5 h6 (hts.below hb0) hn hF hW hK)
  have HB0 := hide hb0
  have HKS := hide hks
  have HG := hide hG
  clear hb0 q0 h1 h2 h3 h4 h5 h6 hts hF hW hK hks hG
  go_enter Tryz.func5, Tryz.ntmps5
  go_wp2_with fail
  generalize (w.alloc (.cells #[.int .i64 s, .int .i64 le, .int .i64 la, .int .i64 wi, .int .i64 ke, .int .i64 qu, .slice a n cap] 27)) = X at *
  refine (ud HOP).mono ?_
  rintro e w1 ⟨c, p, hc, hf, rfl, hsh, hb1⟩
  have hXB : Below w.heap.size w w1 := (ud HB0).trans (hb1.mono (ud HB0).size)
  have HS1 := hide hsh
  have HB1 := hide hXB
  have hep : i64B 1 := by unfold i64B; omega
  have hxw : w.heap.size ≤ X.heap.size := (ud HB0).size
  clear hsh hb1 hXB HOP r0 r1 r2 r3 r4 r5 r6
  go_wp2_with fail
  go_loopw [6, 7] (fun y _ wr => ∃ (t : Nat) (m : MS) (ns : List Nm), t ≤ n2 ∧ y = .int .i64 t ∧ Shop wr X.heap.size p c 1 m ns t ∧ RInv c m ns ∧ Below w.heap.size w wr) (fun y _ _ => n2 - (intOf y).toNat)
  case atStart => exact ⟨0, _, [], Nat.zero_le _, rfl, ud HS1, RInv.start c 0, ud HB1⟩
  case round =>
    obtain ⟨t, m, ns, htn, rfl, hsh, hri, hbw⟩ := hrel
    have hni : (n2 : Int) ≤ 4398046511104 := by omega
    by_cases hlt : t < n2
    · have hlti : (t : Int) < n2 := by omega
      obtain ⟨b, off, hsa, hbz, hcl⟩ := ud HKS (by omega)
      subst hsa
      obtain ⟨g0, g1, g2, g3⟩ := hcl t hlt
      have hfit := ud HG t hlt
      generalize G t = o at *
      obtain ⟨kd, oa, ob, ov⟩ := o
      obtain ⟨fa, fb, fv⟩ := hfit
      dsimp only at g0 g1 g2 g3 fa fb fv
      have y0 := (hbw.cell (p := ⟨b, off + t * 4, none⟩) hbz).trans g0
      have y1 := (hbw.cell (p := ⟨b, off + t * 4 + 1, none⟩) hbz).trans g1
      have y2 := (hbw.cell (p := ⟨b, off + t * 4 + 2, none⟩) hbz).trans g2
      have y3 := (hbw.cell (p := ⟨b, off + t * 4 + 3, none⟩) hbz).trans g3
      have ybz := Nat.lt_of_lt_of_le hbz hbw.size
      have HSTEP := hide (sstep_any hsh hc hf hep kd oa ob ov fa fb fv (by omega))
      have HBW := hide hbw
      obtain ⟨s9, k9, hp9, hS9, hk9, ho9, hkj9, hnj9⟩ := hsh
      have HACT := fun (m1 m' : MS) (ns' : List Nm) (ha : Act1 c 1 m ns m1 ns') (hb : Act1 c 1 m1 ns' m' ns') => hide (RInv.acts hc hf ho9 hri (by omega) ha hb)
      clear hcl hbw g0 g1 g2 g3 hS9 ho9 hri hk9 hp9 hkj9 hnj9
      go_wp2_with fail
      refine (ud HSTEP).mono ?_
      rintro e V2 ⟨rfl, hP⟩
      obtain ⟨m1, m', ns', hA, hA2, hSh, hBel, hC1, hC2⟩ := hP
      have HRI := HACT m1 m' ns' hA hA2
      have HSH := hide hSh
      have HBZ := hide ((ud HBW).trans (hBel.bel.mono hxw))
      clear hSh hBel hA hA2 hC1 hC2 HSTEP y0 y1 y2 y3
      obtain ⟨s2, k2, hp2, hS2, hk2, ho2, hkj2, hnj2⟩ := ud HSH
      have HRT := hide (sright_any hS2 hc hf ho2.ok (ud HRI) (by omega) false (fun e => by cases e))
      rw [hp2] at HRT
      clear hS2 hk2 ho2 hkj2 hnj2 hp2 HACT
      go_wp2_with fail
      refine (ud HRT).mono ?_
      rintro e V3 ⟨rfl, hb3⟩
      have HSH3 := hide ((ud HSH).later hb3)
      have HBZ3 := hide ((ud HBZ).trans (hb3.mono (ud HBZ).size))
      clear hb3 HRT
      go_wp2_with fail
      go_roundw
      case rel => exact ⟨t + 1, m', ns', by omega, by go_num, ud HSH3, ud HRI, ud HBZ3⟩
      case measure => simp [intOf]; omega
    · have hltd : decide ((t : Int) < n2) = false := by simp; omega
      have HBZ := hide hbw
      clear hsh hbw hri
      go_wp2_with fail
      go_ret
      exact ⟨rfl, ud HBZ⟩
end Go.Proofs.YtpbimdkclnekeaaGreat

namespace Go.Proofs.YtpbimdkclnekeaaGreat
open Go.ChangeShapes Go.WideShapes Go.ChangeAt Go.RowKit
set_option linter.unusedVariables false
theorem rolledOwn : ownKnob Tryz.prog.godebug = none := by kernel_rfl
theorem rolledLaidOut : laidOutB Tryz.prog = true := by kernel_rfl
set_option maxRecDepth 100000 in
theorem rolledLifted (os : Os) (started : os.Started) (H : Type) (enc : TypeId × Value → H) :
    ReturnsInHanded {} Tryz.checked os 5 .any (Rows.rolledSpec.pre6 enc Tryz.prog Tryz.f5 Rows.rolledRow.domain false) (Rows.rolledSpec.post enc Tryz.prog Tryz.f5 false true false false) := by
  refine returnsInHanded_of_change_sized (C := Tryz.checked) rolledOwn started (by kernel_rfl) Tryz.func5
    (ChangeSpec.witness6 (enc := enc) (C := Tryz.checked) false ⟨#[], #[.agg #[.int .i64 0, .int .i64 0, .int .i64 0, .int .i64 0, .int .i64 0, .int .i64 0, .slice none 0 0], .slice none 0 0], []⟩ 8 (by kernel_rfl) (by kernel_rfl) (by kernel_rfl) (by kernel_rfl)) ?_
  intro W base args ds gs before hval0 hW hcnd hsz0 _
  have hval : ∀ (j : Nat) t v, Tryz.f5.params[j]? = some t → args[j]? = some v → Value.okWide Tryz.prog W .any base t v := hval0
  have hsz : (DataW.weightsEach Tryz.prog (Tryz.f5.params.toList ++ Rows.rolledSpec.plain.varTypes Tryz.prog) (ds ++ gs)).all (· ≤ reachBytes) = true := hsz0
  have hW' := hW
  obtain ⟨p, q, hA0, hV, rfl, hfz, hnd⟩ := hW
  have hA : DataW.TrodAll enc Tryz.prog W 0 (fun _ => true) true Tryz.f5.params.toList args.toList ds p := hA0
  rw [Tryz.params5] at hA hval hsz
  obtain ⟨v0, vs0, d0, ds0, p0, q0, hargs, rfl, rfl, h0, r0⟩ := trodAll_cons hA
  obtain ⟨v1, vs1, d1, ds1, p1, q1, rfl, rfl, rfl, h1, r1⟩ := trodAll_cons r0
  obtain ⟨rfl, rfl, rfl⟩ := trodAll_nil r1
  obtain rfl : args = #[v0, v1] := by cases args; simp_all
  obtain ⟨rfl, rfl⟩ := trodVars_none hV
  obtain ⟨cs, rfl, hcs⟩ := okWide_struct Tryz.underlying27 (hval 0 27 v0 rfl rfl)
  obtain ⟨a1, len1, cap1, rfl⟩ := okWide_slice Tryz.underlying28 (hval 1 28 v1 rfl rfl)
  have k0 := h0
  have k1 := h1
  have lt0 : ∀ x ∈ p0, x.block < W.heap.size := by obtain ⟨m, hm⟩ := k0; exact DataW.trod_lt m _ _ _ hm
  have lt1 : ∀ x ∈ p1, x.block < W.heap.size := by obtain ⟨m, hm⟩ := k1; exact DataW.trod_lt m _ _ _ hm
  obtain ⟨fuel, hf⟩ := h0
  obtain ⟨fuel1, hf1⟩ := h1
  have hf' : DataW.trod enc Tryz.prog W 0 (fun _ => true) true fuel 27 cs.toList = some (d0, p0) := by simpa [Value.cells] using hf
  have hf1' : DataW.trod enc Tryz.prog W 0 (fun _ => true) true fuel1 28 [.slice a1 len1 cap1] = some (d1, p1) := by simpa [Value.cells] using hf1
  obtain ⟨s, le, la, wi, ke, qu, a, n, cap, Fr, Wd, K, hcl, hts, ⟨b1, b2, b3, b4, b5, b6⟩, ⟨hF, hWd, hK⟩, hwt⟩ := kopen_config hf'
  have hcs' : cs = #[.int .i64 s, .int .i64 le, .int .i64 la, .int .i64 wi, .int .i64 ke, .int .i64 qu, .slice a n cap] := by cases cs; simp_all
  have hn : n ≤ 140737488355328 := by
    have := hwt (fun y hy => by
      have := List.all_eq_true.1 hsz y (DataW.weights_mem_each (j := 0) rfl rfl y hy)
      simpa using this)
    simp only [reachBytes] at this
    omega
  obtain ⟨a2, n2, cap2, G, hc2, hks, hn2, hG⟩ := kopen_steps hf1' (fun y hy => by
    have := List.all_eq_true.1 hsz y (DataW.weights_mem_each (j := 1) rfl rfl y hy)
    simpa using this)
  simp at hc2
  obtain ⟨rfl, rfl, rfl⟩ := hc2
  clear hA0 hval0 hf hf' hwt hf1 hf1'
  refine (show Calls Tryz.prog 5 #[.agg cs, .slice a1 len1 cap1] W _ from hcs' ▸ rolled_any s le la wi ke qu a n cap Fr Wd K a1 len1 cap1 G W b1 b2 b3 b4 b5 b6 hts hn hF hWd hK hks hn2 hG).mono fun e W' ⟨he, bel⟩ => ?_
  subst he
  exact ⟨_, rfl, _, _, _, [], _, [], hW', trodAll_mk1 (shut_bool Tryz.underlying4 _), (trodAll_cons_mk (Below.trod rolledLaidOut (by kernel_rfl) (of_decide_eq_true (by kernel_rfl)) k0 bel lt0) (trodAll_cons_mk (Below.trod rolledLaidOut (by kernel_rfl) (of_decide_eq_true (by kernel_rfl)) k1 bel lt1) trodAll_mk0)), rfl, bel.frame _, fun h => by cases h⟩
theorem rolled_holds : Rows.RolledSaid :=
  OpenClaim.holds_of_wide 5 Tryz.f5 rfl rfl rfl rfl rfl rfl rfl ⟨rfl, rfl, rfl, rfl, rfl⟩ rfl rfl rfl rfl rfl (by kernel_rfl) Tryz.func5 (by kernel_rfl)
    (of_decide_eq_true (by kernel_rfl)) (by unfold Func.isWrapper; first | (rw [if_pos (by decide +kernel)]; kernel_rfl) | (rw [if_neg (by decide +kernel)]; exact ⟨rfl, rfl⟩))
    (fun os started H enc _ => rolledLifted os started H enc)
#print axioms rolled_holds
end Go.Proofs.YtpbimdkclnekeaaGreat
