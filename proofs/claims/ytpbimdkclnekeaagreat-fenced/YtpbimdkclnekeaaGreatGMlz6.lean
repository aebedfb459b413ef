import Derived.Test.YtpbimdkclnekeaaGreatGMlz1
import Derived.Test.YtpbimdkclnekeaaGreatGPck2
import Derived.Test.YtpbimdkclnekeaaGreatGJn1
import Derived.Test.YtpbimdkclnekeaaGreatGTel1
import Derived.StillTactics

namespace Go.Proofs.YtpbimdkclnekeaaGreat
open Go.RowKit Go.Maps Go.Shelf
open Go.ChangeMaps (setBlock)
set_option linter.unusedVariables false
theorem z11 {w : World} {g : Nat} {a0 a1 a2 a3 a4 a5 a6 a7 a8 a9 a10 : Value} {t : TypeId} {fr : Nat × Nat} (h : w.heap[g]? = some (.cells #[a0, a1, a2, a3, a4, a5, a6, a7, a8, a9, a10] t fr)) : w.cell? ⟨g, 0, none⟩ = some a0 ∧ w.cell? ⟨g, 1, none⟩ = some a1 ∧ w.cell? ⟨g, 2, none⟩ = some a2 ∧ w.cell? ⟨g, 3, none⟩ = some a3 ∧ w.cell? ⟨g, 4, none⟩ = some a4 ∧ w.cell? ⟨g, 5, none⟩ = some a5 ∧ w.cell? ⟨g, 6, none⟩ = some a6 ∧ w.cell? ⟨g, 7, none⟩ = some a7 ∧ w.cell? ⟨g, 8, none⟩ = some a8 ∧ w.cell? ⟨g, 9, none⟩ = some a9 ∧ w.cell? ⟨g, 10, none⟩ = some a10 := by
  refine ⟨?_, ?_, ?_, ?_, ?_, ?_, ?_, ?_, ?_, ?_, ?_⟩ <;> rw [rcell h] <;> rfl
theorem bel_dal (X : World) (o : Obj) : Below X.heap.size X (X.alloc o).drew := ((Below.refl _ _).alloc (Nat.le_refl _) o).drew
theorem bel_d {X V : World} (h : Below X.drew.heap.size X.drew V) : Below X.heap.size X V := ⟨h.os, h.tape, h.output, h.size, h.block⟩
theorem bel_da {X V : World} {o : Obj} (h : Below (X.alloc o).drew.heap.size (X.alloc o).drew V) : Below X.heap.size X V := (bel_dal X o).trans (h.mono (bel_dal X o).size)
theorem bel_daj {X V : World} {o : Obj} (h : Below (X.alloc o).drew.heap.size (X.alloc o).drew V) : V.heap[X.heap.size]? = some o := (h.block _ (by show _ < (X.alloc o).heap.size; rw [rsize]; omega)).trans (rlast X o)
theorem bel_a {X V : World} {o : Obj} (h : Below (X.alloc o).heap.size (X.alloc o) V) : Below X.heap.size X V := ((Below.refl _ _).alloc (Nat.le_refl _) o).trans (h.mono ((Below.refl X.heap.size X).alloc (Nat.le_refl _) o).size)
theorem bel_aj {X V : World} {o : Obj} (h : Below (X.alloc o).heap.size (X.alloc o) V) : V.heap[X.heap.size]? = some o := (h.block _ (by rw [rsize]; omega)).trans (rlast X o)
theorem kep_a {f : Nat → Prop} {X V : World} {o : Obj} (h : Kept f (X.alloc o) V) : Kept f X V := (Kept.of_below ((Below.refl X.heap.size X).alloc (Nat.le_refl _) o)).trans h (fun _ _ e => e)
theorem kep_aj {f : Nat → Prop} {X V : World} {o : Obj} (h : Kept f (X.alloc o) V) (hn : ¬ f X.heap.size) : V.heap[X.heap.size]? = some o := h.heap (rlast X o) hn
abbrev noJob : Value := .agg #[.int .i64 0, .int .i64 0, .int .i64 0, .int .i64 0, .int .i64 0, .int .i64 0, .int .i64 0, .int .i64 0, .int .i64 0, .int .i64 0, .int .i64 0]
set_option maxRecDepth 20000 in
set_option maxHeartbeats 4000000 in
theorem mpick_any {w : World} {i : Ids} {c : Cf} {ep : Int} {m : MS} (h : MillAt w i c ep m) (hc : c.ok) (slot : Int) (hsl : 0 ≤ slot ∧ slot < c.s) (hnow : 0 ≤ m.now ∧ m.now ≤ 100000) (hT : ∀ p ∈ m.TL, TskIn c m.now p.2) (hql : m.QL.length ≤ 100000) (hnum : 0 ≤ m.num ∧ m.num ≤ 1000000000000000) (hep : i64B ep) (hqn : ∀ q ∈ m.QL, q.1.num ≤ m.num) (hu : 0 ≤ usedL m.L ∧ usedL m.L ≤ 1000) :
    Calls Tryz.prog 16 #[.pointer (some ⟨i.x, 0, none⟩), .int .i64 slot] w fun e w' => (e = .returned (.tuple #[noJob, .int .i64 6]) ∧ Below w.heap.size w w' ∧ m.QL.any (fun p => p.2.slot == slot) = true) ∨ (e = .returned (.tuple #[noJob, .int .i64 7]) ∧ Below w.heap.size w w' ∧ ∀ p ∈ m.TL, freeB m.QL m.now p.2 = false) ∨ ∃ p, p ∈ m.TL ∧ freeB m.QL m.now p.2 = true ∧ e = .returned (.tuple #[.agg #[.int .i64 p.2.kd, .int .i64 p.2.s.t, .int .i64 p.2.s.ser, .int .i64 p.2.s.win, .int .i64 p.2.since, .int .i64 p.2.tries, .int .i64 p.2.rest, .int .i64 ep, .int .i64 (m.num + 1), .int .i64 slot, .int .i64 (m.now + c.le)], .int .i64 0]) ∧ MillAt w' i c ep { m with num := m.num + 1, QL := putM m.QL ⟨ep, m.num + 1⟩ ⟨p.2.kd, p.2.s, slot, m.now + c.le⟩ } ∧ Kept (mfoot i) w w' := by
  have hba : Below w.heap.size w (w.alloc (.cells #[.int .i64 0, .int .i64 0, .int .i64 0, .int .i64 0, .int .i64 0, .int .i64 0, .int .i64 0, .int .i64 0, .int .i64 0, .int .i64 0, .int .i64 0] 51)) := (Below.refl _ _).alloc (Nat.le_refl _) _
  have q0 := rlast w (.cells #[.int .i64 0, .int .i64 0, .int .i64 0, .int .i64 0, .int .i64 0, .int .i64 0, .int .i64 0, .int .i64 0, .int .i64 0, .int .i64 0, .int .i64 0] 51)
  have qz := rsize w (.cells #[.int .i64 0, .int .i64 0, .int .i64 0, .int .i64 0, .int .i64 0, .int .i64 0, .int .i64 0, .int .i64 0, .int .i64 0, .int .i64 0, .int .i64 0] 51)
  have hX := h.later hba
  obtain ⟨a, cap, htv, hts⟩ := h.ts
  obtain ⟨c0, c1, c2, c3, c4, c5, c6, -, c8, -, c10⟩ := hX.cells
  rw [htv] at c6
  have hxl := hX.lt
  have HSL := fun W => hide (lslot_any c hc a cap slot W)
  rw [show inB slot 0 (c.s - 1) = true from by rw [inB_iff]; omega] at HSL
  have HBU := fun W hW => hide (busy_any ((h.later (w' := W) hW).board) slot hql)
  have HTI := fun W hW => hide (tightM_any (h.later (w' := W) hW) hc hu)
  have HPI := fun W hW tight => hide (bpick_any (a := a) (cap := cap) (htv ▸ (h.later (w' := W) hW).board) hc (hts.below hW) slot m.now tight hnow hT hql hnum hep hqn)
  have H := hide h
  have HBA := hide hba
  have Q0 := hide q0
  have QZ := hide qz
  clear h hX hba q0 qz hts
  go_enter Tryz.func16, Tryz.ntmps16
  have hqx : w.heap.size < (w.alloc (.cells #[.int .i64 0, .int .i64 0, .int .i64 0, .int .i64 0, .int .i64 0, .int .i64 0, .int .i64 0, .int .i64 0, .int .i64 0, .int .i64 0, .int .i64 0] 51)).heap.size := by rw [ud QZ]; omega
  by_cases hbs : m.QL.any (fun p => p.2.slot == slot) = true
  · rw [hbs] at HBU
    go_wp2_with (first
      | (go_at_call 37; refine (ud (HSL _)).mono ?_; rintro e w1 ⟨rfl, hb1⟩; have m10 := (hb1.cell (p := ⟨i.x, 10, none⟩) hxl).trans c10; have hxl1 := Nat.lt_of_lt_of_le hxl hb1.size; have HB1 := hide ((ud HBA).trans (hb1.mono (ud HBA).size)); have HR1 := hide ((hb1.block _ hqx).trans (ud Q0)); clear hb1)
      | (go_at_call 38; refine (ud (HBU _ (ud HB1))).mono ?_; rintro e w2 ⟨rfl, hb2⟩; have HB2 := hide ((ud HB1).trans (hb2.mono (ud HB1).size)); have hr2 := (hb2.block _ (lt_of_heap (ud HR1))).trans (ud HR1); have z0 := (z11 hr2); obtain ⟨z0, z1, z2, z3, z4, z5, z6, z7, z8, z9, z10⟩ := z0; have zf := fun j => rfree hr2 j; have zl := lt_of_heap hr2; have HR2 := hide hr2; clear hb2 hr2))
    have hf := row11 (ud HR2) (.int .i64 0) (.int .i64 0) (.int .i64 0) (.int .i64 0) (.int .i64 0) (.int .i64 0) (.int .i64 0) (.int .i64 0) (.int .i64 0) (.int .i64 0) (.int .i64 0)
    refine bodyPost_ret (results_row_tmp Tryz.results16 _ _ w.heap.size _ _ _ _ _ rfl rfl hf Tryz.underlying51 rfl (by kernel_rfl)) rfl ?_
    have kT := kept11 (w := w2) (g := w.heap.size) (.int .i64 0) (.int .i64 0) (.int .i64 0) (.int .i64 0) (.int .i64 0) (.int .i64 0) (.int .i64 0) (.int .i64 0) (.int .i64 0) (.int .i64 0) (.int .i64 0)
    exact .inl ⟨rfl, (ud HB2).trans (kT.below (ud HB2).size (fun k e => by omega)), hbs⟩
  · have hbf : m.QL.any (fun p => p.2.slot == slot) = false := by simpa using hbs
    rw [hbf] at HBU
    go_wp2_with (first
      | (go_at_call 37; refine (ud (HSL _)).mono ?_; rintro e w1 ⟨rfl, hb1⟩; have m10 := (hb1.cell (p := ⟨i.x, 10, none⟩) hxl).trans c10; have hxl1 := Nat.lt_of_lt_of_le hxl hb1.size; have HB1 := hide ((ud HBA).trans (hb1.mono (ud HBA).size)); have HR1 := hide ((hb1.block _ hqx).trans (ud Q0)); have m8 := (hb1.cell (p := ⟨i.x, 8, none⟩) hxl).trans c8; clear hb1)
      | (go_at_call 38; refine (ud (HBU _ (ud HB1))).mono ?_; rintro e w2 ⟨rfl, hb2⟩; have n10 := (hb2.cell (p := ⟨i.x, 10, none⟩) hxl1).trans m10; have n8 := (hb2.cell (p := ⟨i.x, 8, none⟩) hxl1).trans m8; have hxl2 := Nat.lt_of_lt_of_le hxl1 hb2.size; have HB2 := hide ((ud HB1).trans (hb2.mono (ud HB1).size)); have HR2 := hide ((hb2.block _ (lt_of_heap (ud HR1))).trans (ud HR1)); clear hb2))
    have hM2 := (ud H).later (ud HB2)
    have hfx := hM2.x_board
    have HT2 := fun W (hW : Below w2.heap.size w2 W) => HTI W ((ud HB2).trans (hW.mono (ud HB2).size))
    have HP2 := fun W (hW : Below w2.heap.size w2 W) => HPI W ((ud HB2).trans (hW.mono (ud HB2).size)) (tightB (usedL m.L) c.qu)
    have HM2 := hide hM2
    have hrl : w.heap.size < w2.heap.size := lt_of_heap (ud HR2)
    clear HTI HPI HBU HSL hM2 c0 c1 c2 c3 c4 c5 c6 c8 c10 m8 m10 hxl hxl1
    have hn0 : ¬ i.x = w2.heap.size := by omega
    have hn1 : ¬ w2.heap.size = i.x := by omega
    have hrn : w.heap.size < w2.heap.size := hrl
    rename_i K1 hK1
    have hxb : ¬ (i.x = i.b ∨ i.x = i.qb) := fun e => by
      rcases e with e | e
      · exact hfx i.b (.inl rfl) e.symm
      · exact hfx i.qb (.inr (.inr rfl)) e.symm
    have hbl1 : i.b < w2.heap.size := (ud HM2).foot_lt i.b (.inr (.inr (.inl rfl)))
    have hbl2 : i.qb < w2.heap.size := (ud HM2).foot_lt i.qb (.inr (.inr (.inr (.inr rfl))))
    clear hfx
    by_cases hfr : ∀ p ∈ m.TL, freeB m.QL m.now p.2 = false
    · have HP3 := fun W (hW : Below w2.heap.size w2 W) => hide ((ud (HP2 W hW)).mono (fun e W' hh => hh.elim (fun h => (⟨h.1, h.2.1⟩ : e = .returned (.tuple #[.agg #[.int .i64 0, .int .i64 0, .int .i64 0, .int .i64 0, .int .i64 0, .int .i64 0, .int .i64 0, .int .i64 0, .int .i64 0, .int .i64 0, .int .i64 0], .bool false]) ∧ Below W.heap.size W W')) (fun ⟨p, hp, hf, _⟩ => absurd (hfr p hp) (by rw [hf]; simp))))
      clear HP2
      have cont : ∀ (bj : Nat) (T : World), Hid (T.heap[w.heap.size]? = some (.cells #[.int .i64 0, .int .i64 0, .int .i64 0, .int .i64 0, .int .i64 0, .int .i64 0, .int .i64 0, .int .i64 0, .int .i64 0, .int .i64 0, .int .i64 0] 51 (0, 0))) → Hid (Below w.heap.size w T) → K1 { tmps := #[.pointer (some ⟨i.x, 0, none⟩), .int .i64 slot, undef, undef, .pointer (some ⟨w.heap.size, 0, none⟩), .int .i64 0, .pointer (some ⟨bj, 0, none⟩), .bool false, .pointer (some ⟨i.x, 0, none⟩), .pointer (some ⟨i.x, 0, none⟩), .pointer (some ⟨i.x, 0, none⟩), .agg #[.int .i64 c.s, .int .i64 c.le, .int .i64 c.la, .int .i64 c.wi, .int .i64 c.ke, .int .i64 c.qu, .slice a c.n cap], .int .i64 slot, .bool true, .bool false, .bool false, .pointer (some ⟨i.x, 0, none⟩), .pointer (some ⟨i.x, 0, none⟩), .pointer (some ⟨i.x, 10, none⟩), .pointer (some ⟨i.b, 0, none⟩), .int .i64 slot, .bool false, .bool false, undef, .tuple #[.agg #[.int .i64 0, .int .i64 0, .int .i64 0, .int .i64 0, .int .i64 0, .int .i64 0, .int .i64 0, .int .i64 0, .int .i64 0, .int .i64 0, .int .i64 0], .bool false], .pointer (some ⟨i.x, 0, none⟩), .pointer (some ⟨i.x, 0, none⟩), .pointer (some ⟨i.x, 10, none⟩), .pointer (some ⟨i.b, 0, none⟩), .int .i64 slot, .pointer (some ⟨i.x, 0, none⟩), .pointer (some ⟨i.x, 0, none⟩), .pointer (some ⟨i.x, 8, none⟩), .int .i64 m.now, .pointer (some ⟨i.x, 0, none⟩), .bool (tightB (usedL m.L) c.qu), .tuple #[.agg #[.int .i64 0, .int .i64 0, .int .i64 0, .int .i64 0, .int .i64 0, .int .i64 0, .int .i64 0, .int .i64 0, .int .i64 0, .int .i64 0, .int .i64 0], .bool false], .agg #[.int .i64 0, .int .i64 0, .int .i64 0, .int .i64 0, .int .i64 0, .int .i64 0, .int .i64 0, .int .i64 0, .int .i64 0, .int .i64 0, .int .i64 0], .bool false, undef, undef, undef, undef], defers := [] } T := by
        intro bj T HR HB
        refine hK1 _ _ ?_
        clear hK1 HP3 HT2
        obtain ⟨z0, z1, z2, z3, z4, z5, z6, z7, z8, z9, z10⟩ := z11 (ud HR)
        have zf := fun j => rfree (ud HR) j
        have zl := lt_of_heap (ud HR)
        go_wp2_with fail
        have hf := row11 (ud HR) (.int .i64 0) (.int .i64 0) (.int .i64 0) (.int .i64 0) (.int .i64 0) (.int .i64 0) (.int .i64 0) (.int .i64 0) (.int .i64 0) (.int .i64 0) (.int .i64 0)
        refine bodyPost_ret (results_row_tmp Tryz.results16 _ _ w.heap.size _ _ _ _ _ rfl rfl hf Tryz.underlying51 rfl (by kernel_rfl)) rfl ?_
        have kT := kept11 (w := T) (g := w.heap.size) (.int .i64 0) (.int .i64 0) (.int .i64 0) (.int .i64 0) (.int .i64 0) (.int .i64 0) (.int .i64 0) (.int .i64 0) (.int .i64 0) (.int .i64 0) (.int .i64 0)
        exact .inr (.inl ⟨rfl, (ud HB).trans (kT.below (ud HB).size (fun k e => by omega)), hfr⟩)
      go_region_held3 (fun w' => w'.cell? ⟨i.x, 10, none⟩ = some (.pointer (some ⟨i.b, 0, none⟩)) ∧ w'.cell? ⟨i.x, 8, none⟩ = some (.int .i64 m.now)) (go_keep) (first
        | (go_at_call 35; (with_reducible refine (ud (HT2 _ ?hb)).mono ?_); (case hb => (first | exact (Below.refl _ _).drew | exact bel_dal w2 _)); rintro e V1 ⟨rfl, hv0⟩; have hv : Below w2.heap.size w2 V1 := (by first | exact bel_d hv0 | exact bel_da hv0); (try have hj := bel_daj hv0); have s10 := (hv.cell (p := ⟨i.x, 10, none⟩) hxl2).trans n10; have s8 := (hv.cell (p := ⟨i.x, 8, none⟩) hxl2).trans n8; have hxl3 := Nat.lt_of_lt_of_le hxl2 hv.size; have hn2 : ¬ i.x = V1.heap.size := (by omega); have hn3 : ¬ V1.heap.size = i.x := (by omega); clear hv0)
        | (go_at_call 39; (with_reducible refine (ud (HP3 _ ?hb)).mono ?_); (case hb => (first | exact hv | exact hv.alloc hv.size _)); rintro e V2 ⟨rfl, hv0⟩; have hv2 : Below V1.heap.size V1 V2 := (by first | exact hv0 | exact bel_a hv0); (first | (have hj2 := bel_aj hv0) | (have hj2 := (hv2.block _ (lt_of_heap hj)).trans hj) | skip); have t10 := (hv2.cell (p := ⟨i.x, 10, none⟩) hxl3).trans s10; have t8 := (hv2.cell (p := ⟨i.x, 8, none⟩) hxl3).trans s8; have hxl4 := Nat.lt_of_lt_of_le hxl3 hv2.size; (try (obtain ⟨j0, j1, j2, j3, j4, j5, j6, j7, j8, j9, j10⟩ := z11 hj2; have jf := fun j => rfree hj2 j; have jl := lt_of_heap hj2; have HJ := hide hj2; clear hj2)); have HV := hide hv; have HV2 := hide hv2; clear hv0 hv hv2))
      all_goals
        have b02 := (ud HB2).trans ((ud HV).mono (ud HB2).size)
        have b03 := b02.trans ((ud HV2).mono b02.size)
        have hl1 := (ud HV).size
        have hr3 := ((ud HV2).block _ (Nat.lt_of_lt_of_le hrn hl1)).trans (((ud HV).block _ hrn).trans (ud HR2))
      · exact cont _ _ (hide ((Below.heap_alloc _ _ _ (lt_of_heap hr3)).trans hr3)) (hide (b03.alloc b03.size _))
      · have kT := kept11 (w := V2) (g := V1.heap.size) (.int .i64 0) (.int .i64 0) (.int .i64 0) (.int .i64 0) (.int .i64 0) (.int .i64 0) (.int .i64 0) (.int .i64 0) (.int .i64 0) (.int .i64 0) (.int .i64 0)
        exact cont _ _ (hide (kT.heap hr3 (by omega))) (hide (b03.trans (kT.below b03.size (fun k e => by omega))))
      · have kT := kept11 (w := V2) (g := w2.heap.size) (.int .i64 0) (.int .i64 0) (.int .i64 0) (.int .i64 0) (.int .i64 0) (.int .i64 0) (.int .i64 0) (.int .i64 0) (.int .i64 0) (.int .i64 0) (.int .i64 0)
        exact cont _ _ (hide (kT.heap hr3 (by omega))) (hide (b03.trans (kT.below b03.size (fun k e => by omega))))
    · have HP3 := fun W (hW : Below w2.heap.size w2 W) => hide ((ud (HP2 W hW)).mono (fun e W' hh => hh.elim (fun h => absurd h.2.2 hfr) id))
      clear HP2
      have cont : ∀ (p : Jk × Tsk) (bj : Nat) (T : World), Hid (p ∈ m.TL ∧ freeB m.QL m.now p.2 = true) → Hid (T.heap[bj]? = some (.cells #[.int .i64 p.2.kd, .int .i64 p.2.s.t, .int .i64 p.2.s.ser, .int .i64 p.2.s.win, .int .i64 p.2.since, .int .i64 p.2.tries, .int .i64 p.2.rest, .int .i64 ep, .int .i64 (m.num + 1), .int .i64 slot, .int .i64 (m.now + c.le)] 51 (0, 0))) → Hid (T.heap[w.heap.size]? = some (.cells #[.int .i64 0, .int .i64 0, .int .i64 0, .int .i64 0, .int .i64 0, .int .i64 0, .int .i64 0, .int .i64 0, .int .i64 0, .int .i64 0, .int .i64 0] 51 (0, 0))) → Hid (w.heap.size < bj) → Hid (MillAt T i c ep { m with num := m.num + 1, QL := putM m.QL ⟨ep, m.num + 1⟩ ⟨p.2.kd, p.2.s, slot, m.now + c.le⟩ }) → Hid (Kept (mfoot i) w T) → K1 { tmps := #[.pointer (some ⟨i.x, 0, none⟩), .int .i64 slot, undef, undef, .pointer (some ⟨w.heap.size, 0, none⟩), .int .i64 0, .pointer (some ⟨bj, 0, none⟩), .bool true, .pointer (some ⟨i.x, 0, none⟩), .pointer (some ⟨i.x, 0, none⟩), .pointer (some ⟨i.x, 0, none⟩), .agg #[.int .i64 c.s, .int .i64 c.le, .int .i64 c.la, .int .i64 c.wi, .int .i64 c.ke, .int .i64 c.qu, .slice a c.n cap], .int .i64 slot, .bool true, .bool false, .bool false, .pointer (some ⟨i.x, 0, none⟩), .pointer (some ⟨i.x, 0, none⟩), .pointer (some ⟨i.x, 10, none⟩), .pointer (some ⟨i.b, 0, none⟩), .int .i64 slot, .bool false, .bool false, undef, .tuple #[.agg #[.int .i64 p.2.kd, .int .i64 p.2.s.t, .int .i64 p.2.s.ser, .int .i64 p.2.s.win, .int .i64 p.2.since, .int .i64 p.2.tries, .int .i64 p.2.rest, .int .i64 ep, .int .i64 (m.num + 1), .int .i64 slot, .int .i64 (m.now + c.le)], .bool true], .pointer (some ⟨i.x, 0, none⟩), .pointer (some ⟨i.x, 0, none⟩), .pointer (some ⟨i.x, 10, none⟩), .pointer (some ⟨i.b, 0, none⟩), .int .i64 slot, .pointer (some ⟨i.x, 0, none⟩), .pointer (some ⟨i.x, 0, none⟩), .pointer (some ⟨i.x, 8, none⟩), .int .i64 m.now, .pointer (some ⟨i.x, 0, none⟩), .bool (tightB (usedL m.L) c.qu), .tuple #[.agg #[.int .i64 p.2.kd, .int .i64 p.2.s.t, .int .i64 p.2.s.ser, .int .i64 p.2.s.win, .int .i64 p.2.since, .int .i64 p.2.tries, .int .i64 p.2.rest, .int .i64 ep, .int .i64 (m.num + 1), .int .i64 slot, .int .i64 (m.now + c.le)], .bool true], .agg #[.int .i64 p.2.kd, .int .i64 p.2.s.t, .int .i64 p.2.s.ser, .int .i64 p.2.s.win, .int .i64 p.2.since, .int .i64 p.2.tries, .int .i64 p.2.rest, .int .i64 ep, .int .i64 (m.num + 1), .int .i64 slot, .int .i64 (m.now + c.le)], .bool true, undef, undef, undef, undef], defers := [] } T := by
        intro p bj T HPP HJ HR HBJ HM HK
        refine hK1 _ _ ?_
        clear hK1 HP3 HT2
        obtain ⟨z0, z1, z2, z3, z4, z5, z6, z7, z8, z9, z10⟩ := z11 (ud HR)
        obtain ⟨y0, y1, y2, y3, y4, y5, y6, y7, y8, y9, y10⟩ := z11 (ud HJ)
        have zf := fun j => rfree (ud HR) j
        have zl := lt_of_heap (ud HR)
        have yl := lt_of_heap (ud HJ)
        go_wp2_with fail
        have hf := row11 (ud HR) (.int .i64 p.2.kd) (.int .i64 p.2.s.t) (.int .i64 p.2.s.ser) (.int .i64 p.2.s.win) (.int .i64 p.2.since) (.int .i64 p.2.tries) (.int .i64 p.2.rest) (.int .i64 ep) (.int .i64 (m.num + 1)) (.int .i64 slot) (.int .i64 (m.now + c.le))
        refine bodyPost_ret (results_row_tmp Tryz.results16 _ _ w.heap.size _ _ _ _ _ rfl rfl hf Tryz.underlying51 rfl (by kernel_rfl)) rfl ?_
        have kT := kept11 (w := T) (g := w.heap.size) (.int .i64 p.2.kd) (.int .i64 p.2.s.t) (.int .i64 p.2.s.ser) (.int .i64 p.2.s.win) (.int .i64 p.2.since) (.int .i64 p.2.tries) (.int .i64 p.2.rest) (.int .i64 ep) (.int .i64 (m.num + 1)) (.int .i64 slot) (.int .i64 (m.now + c.le))
        have hlt := (ud H).foot_lt
        exact .inr (.inr ⟨p, (ud HPP).1, (ud HPP).2, rfl, (ud HM).kept kT (fun k hk e => by have := hlt k hk; omega), (ud HK).trans kT (fun k hk e => by omega)⟩)
      go_region_held3 (fun w' => w'.cell? ⟨i.x, 10, none⟩ = some (.pointer (some ⟨i.b, 0, none⟩)) ∧ w'.cell? ⟨i.x, 8, none⟩ = some (.int .i64 m.now)) (go_keep) (first
        | (go_at_call 35; (with_reducible refine (ud (HT2 _ ?hb)).mono ?_); (case hb => (first | exact (Below.refl _ _).drew | exact bel_dal w2 _)); rintro e V1 ⟨rfl, hv0⟩; have hv : Below w2.heap.size w2 V1 := (by first | exact bel_d hv0 | exact bel_da hv0); (try have hj := bel_daj hv0); have s10 := (hv.cell (p := ⟨i.x, 10, none⟩) hxl2).trans n10; have s8 := (hv.cell (p := ⟨i.x, 8, none⟩) hxl2).trans n8; have hxl3 := Nat.lt_of_lt_of_le hxl2 hv.size; have hn2 : ¬ i.x = V1.heap.size := (by omega); have hn3 : ¬ V1.heap.size = i.x := (by omega); clear hv0)
        | (go_at_call 39; (with_reducible refine (ud (HP3 _ ?hb)).mono ?_); (case hb => (first | exact hv | exact hv.alloc hv.size _)); rintro e V2 ⟨p, hp, hpf, rfl, hB9, hk0⟩; have hk9 : Kept (fun k => k = i.b ∨ k = i.qb) V1 V2 := (by first | exact hk0 | exact kep_a hk0); (first | (have hj2 := kep_aj hk0 (fun e => by have := hv.size; omega)) | (have hj2 := hk9.heap hj (fun e => by omega)) | skip); have t10 := (kept_cell (i := 10) hk9 (fun e => hxb e) hxl3).trans s10; have t8 := (kept_cell (i := 8) hk9 (fun e => hxb e) hxl3).trans s8; have hxl4 := Nat.lt_of_lt_of_le hxl3 hk9.size; (try (obtain ⟨j0, j1, j2, j3, j4, j5, j6, j7, j8, j9, j10⟩ := z11 hj2; have jf := fun j => rfree hj2 j; have jl := lt_of_heap hj2; have HJ := hide hj2; clear hj2)); have HV := hide hv; have HB9 := hide hB9; have HK9 := hide hk9; have HPP : Hid (p ∈ m.TL ∧ freeB m.QL m.now p.2 = true) := ⟨hp, hpf⟩; clear hB9 hk9 hk0 hv hp hpf))
      all_goals
        have b02 := (ud HB2).trans ((ud HV).mono (ud HB2).size)
        have hM1 := (ud HM2).later (ud HV)
        have hM3 := hM1.putBoard (by rw [htv]; exact ud HB9) ((ud HK9).mono (fun k _ e => e.elim .inl (fun e => .inr (.inr e))))
        have hl1 := (ud HV).size
        have hl2 := (ud HK9).size
        have hr3 := (ud HK9).heap (((ud HV).block _ hrn).trans (ud HR2)) (fun e => by have := (ud H).foot_lt i.b (.inr (.inr (.inl rfl))); have := (ud H).foot_lt i.qb (.inr (.inr (.inr (.inr rfl)))); omega)
        have k03 : Kept (mfoot i) w V2 := (Kept.of_below (f := mfoot i) b02).trans ((ud HK9).mono (fun k _ e => .inr (.inr (e.elim .inl (fun e => .inr (.inr e)))))) (fun _ _ e => e)
        have hlt3 := hM3.foot_lt
        have hlt2 := (ud HM2).foot_lt
      · exact cont p _ _ HPP (hide (rlast V2 _)) (hide ((Below.heap_alloc _ _ _ (lt_of_heap hr3)).trans hr3)) (hide (by omega)) (hide (hM3.later ((Below.refl _ _).alloc (Nat.le_refl _) _))) (hide (k03.trans (Kept.of_below ((Below.refl _ _).alloc (Nat.le_refl _) _)) (fun _ _ e => e)))
      · have kT := kept11 (w := V2) (g := V1.heap.size) (.int .i64 p.2.kd) (.int .i64 p.2.s.t) (.int .i64 p.2.s.ser) (.int .i64 p.2.s.win) (.int .i64 p.2.since) (.int .i64 p.2.tries) (.int .i64 p.2.rest) (.int .i64 ep) (.int .i64 (m.num + 1)) (.int .i64 slot) (.int .i64 (m.now + c.le))
        exact cont p _ _ HPP (hide (row11 (ud HJ) (.int .i64 p.2.kd) (.int .i64 p.2.s.t) (.int .i64 p.2.s.ser) (.int .i64 p.2.s.win) (.int .i64 p.2.since) (.int .i64 p.2.tries) (.int .i64 p.2.rest) (.int .i64 ep) (.int .i64 (m.num + 1)) (.int .i64 slot) (.int .i64 (m.now + c.le)))) (hide (kT.heap hr3 (by omega))) (hide (by omega)) (hide (hM3.kept kT (fun k hk e => by have := hlt2 k hk; omega))) (hide (k03.trans kT (fun k hk e => by omega)))
      · have kT := kept11 (w := V2) (g := w2.heap.size) (.int .i64 p.2.kd) (.int .i64 p.2.s.t) (.int .i64 p.2.s.ser) (.int .i64 p.2.s.win) (.int .i64 p.2.since) (.int .i64 p.2.tries) (.int .i64 p.2.rest) (.int .i64 ep) (.int .i64 (m.num + 1)) (.int .i64 slot) (.int .i64 (m.now + c.le))
        exact cont p _ _ HPP (hide (row11 (ud HJ) (.int .i64 p.2.kd) (.int .i64 p.2.s.t) (.int .i64 p.2.s.ser) (.int .i64 p.2.s.win) (.int .i64 p.2.since) (.int .i64 p.2.tries) (.int .i64 p.2.rest) (.int .i64 ep) (.int .i64 (m.num + 1)) (.int .i64 slot) (.int .i64 (m.now + c.le)))) (hide (kT.heap hr3 (by omega))) (hide (by omega)) (hide (hM3.kept kT (fun k hk e => by have := hlt2 k hk; omega))) (hide (k03.trans kT (fun k hk e => by omega)))
end Go.Proofs.YtpbimdkclnekeaaGreat

namespace Go.Proofs.YtpbimdkclnekeaaGreat
open Go.RowKit Go.Maps Go.Shelf
set_option linter.unusedVariables false
def StK (w w' : World) : Prop := ∀ (q : Nat) (cs : Array Value) (fr : Nat × Nat), w.heap[q]? = some (.cells cs 37 fr) → w'.heap[q]? = some (.cells cs 37 fr)
theorem StK.refl (w : World) : StK w w := fun _ _ _ h => h
theorem StK.trans {a b d : World} (h : StK a b) (h2 : StK b d) : StK a d := fun q cs fr e => h2 q cs fr (h q cs fr e)
theorem StK.below {w w' : World} (h : Below w.heap.size w w') : StK w w' := fun q cs fr e => (h.block q (lt_of_heap e)).trans e
theorem StK.kept {f : Nat → Prop} {w w' : World} (h : Kept f w w') (hf : ∀ q cs fr, w.heap[q]? = some (.cells cs 37 fr) → ¬ f q) : StK w w' := fun q cs fr e => h.heap e (hf q cs fr e)
theorem StK.drew {w w' : World} (h : StK w w') : StK w w'.drew := h
theorem StK.alloc {w w' : World} (h : StK w w') (o : Obj) : StK w (w'.alloc o) := h.trans (StK.below ((Below.refl _ _).alloc (Nat.le_refl _) o))
theorem StK.row {w w' : World} {B : Nat} {e : TypeId} {size n : Nat} {v : Value} {xs : List Value} (h : w.ownsRow B e size v n xs) (he : e ≠ 37) (hk : Kept (fun k => v.ownBlock = some k) w w') : StK w w' :=
  StK.kept hk (fun q cs fr hq hv => by
    obtain ⟨cur, hc⟩ := owns_type h hv
    rw [hq] at hc
    injection hc with hc; injection hc with _ hc; exact he hc.symm)
theorem StK.set {w : World} {g i : Nat} {cs : Array Value} {t : TypeId} {fr : Nat × Nat} (hg : w.heap[g]? = some (.cells cs t fr)) (ht : t ≠ 37) (v : Value) : StK w (w.setCell ⟨g, i, none⟩ v) :=
  StK.kept (f := fun k => k = g) (Kept.setCell (f := fun k => k = g) (Kept.refl _ _) (p := ⟨g, i, none⟩) (fun _ => rfl) v) (fun q cs' fr' hq e => by
    have e' : q = g := e
    rw [e', hg] at hq
    injection hq with hq; injection hq with _ hq; exact ht hq)
theorem StK.mill {w w' : World} {i : Ids} {c : Cf} {ep : Int} {m : MS} (h : MillAt w i c ep m) (hk : Kept (mfoot i) w w') : StK w w' :=
  StK.kept hk (fun q cs fr hq hf => by
    rcases hf with e | e | e
    · have hx := h.head
      rw [← e, hq] at hx
      injection hx with hx; injection hx with _ hx; exact absurd hx (by decide)
    · rcases e with e | e | e | e
      · have hx := h.set.head
        rw [← e, hq] at hx
        injection hx with hx; injection hx with _ hx; exact absurd hx (by decide)
      · obtain ⟨cur, hc⟩ := owns_type h.set.trow e
        rw [hq] at hc
        injection hc with hc; injection hc with _ hc; exact absurd hc (by decide)
      · exact map_cells (live_map.1 h.set.live) hq e.symm
      · exact map_cells h.set.gone hq e.symm
    · rcases e with e | e | e
      · have hx := h.board.head
        rw [← e, hq] at hx
        injection hx with hx; injection hx with _ hx; exact absurd hx (by decide)
      · exact map_cells h.board.tasks hq e.symm
      · exact map_cells h.board.leases hq e.symm)
structure Bel (B : Nat) (w w' : World) : Prop where
  bel : Below B w w'
  stk : StK w w'
section
variable {B : Nat} {w a b : World}
theorem Bel.size (h : Bel B w a) : w.heap.size ≤ a.heap.size := h.bel.size
theorem Bel.trans (h : Bel B w a) (h2 : Bel B a b) : Bel B w b := ⟨h.bel.trans h2.bel, h.stk.trans h2.stk⟩
theorem Bel.drew (h : Bel B w a) : Bel B w a.drew := ⟨h.bel.drew, h.stk⟩
theorem Bel.alloc (h : Bel B w a) (hB : B ≤ a.heap.size) (o : Obj) : Bel B w (a.alloc o) := ⟨h.bel.alloc hB o, h.stk.alloc o⟩
theorem Bel.of (h : Below w.heap.size w a) (hB : B ≤ w.heap.size) : Bel B w a := ⟨h.mono hB, StK.below h⟩
theorem Bel.mill {i : Ids} {c : Cf} {ep : Int} {m : MS} (h : MillAt w i c ep m) (hk : Kept (mfoot i) w a) (hB : B ≤ w.heap.size) (hlo : ∀ j, mfoot i j → B ≤ j) : Bel B w a := ⟨hk.below hB hlo, StK.mill h hk⟩
theorem Bel.row {e : TypeId} {size n : Nat} {v : Value} {xs : List Value} (h : w.ownsRow B e size v n xs) (he : e ≠ 37) (hk : Kept (fun k => v.ownBlock = some k) w a) (hB : B ≤ w.heap.size) : Bel B w a := ⟨hk.below hB (fun q hq => (h.lt q hq).1), StK.row h he hk⟩
theorem Bel.set {g i : Nat} {cs : Array Value} {t : TypeId} {fr : Nat × Nat} (hg : w.heap[g]? = some (.cells cs t fr)) (ht : t ≠ 37) (hB : B ≤ g) (v : Value) : Bel B w (w.setCell ⟨g, i, none⟩ v) :=
  ⟨(Kept.setCell (f := fun k => k = g) (Kept.refl _ _) (p := ⟨g, i, none⟩) (fun _ => rfl) v).below (Nat.le_of_lt (Nat.lt_of_le_of_lt hB (lt_of_heap hg))) (fun q e => by have e' : q = g := e; omega), StK.set hg ht v⟩
theorem Bel.unt {g k cap i : Nat} {us : List Int} (h : w.ownsRow B 3 1 (.slice (some ⟨g, 0, none⟩) k cap) us.length (us.map (Value.int .i64))) (v : Value) : Bel B w (w.setCell ⟨g, i, none⟩ v) := by
  obtain ⟨cur, hc⟩ := owns_type h (k := g) rfl
  exact Bel.set hc (by decide) (h.lt g rfl).1 v
end
end Go.Proofs.YtpbimdkclnekeaaGreat

namespace Go.Proofs.YtpbimdkclnekeaaGreat
open Go.RowKit Go.Maps Go.Shelf
set_option linter.unusedVariables false
def cutT (n : Int) (t : Nat) (us : List Int) : List Int := (us.take t).map (cutU n) ++ us.drop t
theorem cutT_len (n : Int) (t : Nat) (us : List Int) : (cutT n t us).length = us.length := by unfold cutT; simp; omega
theorem cutT_zero (n : Int) (us : List Int) : cutT n 0 us = us := by simp [cutT]
theorem cutT_all (n : Int) (us : List Int) : cutT n us.length us = us.map (cutU n) := by simp [cutT]
theorem cutT_at (n : Int) (t : Nat) (us : List Int) (ht : t < us.length) : (cutT n t us)[t]? = us[t]? := by
  unfold cutT
  rw [List.getElem?_append_right (by simp; omega)]
  simp [Nat.min_eq_left (Nat.le_of_lt ht)]
theorem cutT_succ (n : Int) (t : Nat) (us : List Int) (ht : t < us.length) : cutT n (t + 1) us = (cutT n t us).set t (cutU n us[t]) := by
  apply List.ext_getElem?
  intro i
  rw [List.getElem?_set, cutT_len]
  have e1 : ∀ t' i, t' ≤ us.length → (cutT n t' us)[i]? = if i < t' then us[i]?.map (cutU n) else us[i]? := fun t' i h' => by
    unfold cutT
    by_cases hi : i < t'
    · rw [List.getElem?_append_left (by simp; omega), if_pos hi, List.getElem?_map, List.getElem?_take_of_lt hi]
    · rw [List.getElem?_append_right (by simp; omega), if_neg hi]
      simp [Nat.min_eq_left h']
      congr 1
      omega
  rw [e1 _ _ (by omega), e1 _ _ (by omega)]
  by_cases hi : t = i
  · subst hi
    rw [if_pos (by omega), if_pos rfl, if_pos ht]
    simp [ht]
  · rw [if_neg hi]
    by_cases h2 : i < t
    · rw [if_pos (by omega), if_pos h2]
    · rw [if_neg (by omega), if_neg h2]
theorem cutU_low {n u : Int} (h : u ≤ n) : cutU n u = 0 := by unfold cutU; rw [if_pos h]
theorem cutU_high {n u : Int} (h : ¬ u ≤ n) : cutU n u = u := by unfold cutU; rw [if_neg h]
theorem set_self {l : List Int} {t : Nat} {u : Int} (h : l[t]? = some u) : l.set t u = l := by
  apply List.ext_getElem?
  intro i
  rw [List.getElem?_set]
  split
  · rename_i e; subst e
    obtain ⟨hl, he⟩ := List.getElem?_eq_some_iff.1 h
    rw [if_pos hl, h]
  · rfl
theorem kept_set0' (w : World) (g i : Nat) (v : Value) : Kept (fun k => k = g) w (w.setCell ⟨g, i, none⟩ v) := Kept.setCell (f := fun k => k = g) (Kept.refl _ _) (p := ⟨g, i, none⟩) (fun _ => rfl) v
section
variable {w : World} {B p : Nat} {c : Cf} {ep : Int} {m : MS} {ns : List Nm} {j : Nat}
theorem Shop.size (h : Shop w B p c ep m ns j) : B ≤ w.heap.size := by
  obtain ⟨s, k, rfl, h2, _⟩ := h
  have := h2.lo; have := h2.lt; omega
end
set_option maxRecDepth 20000 in
set_option maxHeartbeats 4000000 in
theorem stick_late {w : World} {B p : Nat} {c : Cf} {ep : Int} {m : MS} {ns : List Nm} {j : Nat} (hs : Shop w B p c ep m ns j) (n : Int) (hn : 1 ≤ n ∧ n ≤ 1000) (hl : 100000 < m.now + n) :
    Calls Tryz.prog 15 #[.pointer (some ⟨p, 0, none⟩), .int .i64 n] w fun e w' => e = .returned (.bool true) ∧ Below w.heap.size w w' := by
  obtain ⟨s, k, rfl, h, hk, ho, _⟩ := hs
  obtain ⟨c0, _, _, _, _, _, c9, _⟩ := h.cells
  have hpl := h.lt
  have hnow := ho.ok.now
  have HT := fun W (hW : Below w.heap.size w W) => hide (mtick_bad (h.later hW).mill n (.inr (.inr hl)) hnow)
  obtain ⟨hn1, hn2⟩ := hn
  obtain ⟨hw1, hw2⟩ := hnow
  clear h ho
  go_enter Tryz.func15, Tryz.ntmps15
  go_wp2_with (first | (go_at_call 36; refine (ud (HT _ (Below.refl _ _))).mono ?_; rintro e w1 ⟨rfl, hb1⟩; have d9 := (hb1.cell (p := ⟨s.p, 9, none⟩) hpl).trans c9; have hpl1 := Nat.lt_of_lt_of_le hpl hb1.size; have HB1 := hide hb1; clear hb1))
  go_ret
  exact ⟨rfl, ud HB1⟩
set_option maxRecDepth 20000 in
set_option maxHeartbeats 4000000 in
theorem stick_good {w : World} {B p : Nat} {c : Cf} {ep : Int} {m : MS} {ns : List Nm} {j : Nat} (hs : Shop w B p c ep m ns j) (hc : c.ok) (hf : c.fits) (n : Int) (hn : 1 ≤ n ∧ n ≤ 1000) (hl : m.now + n ≤ 100000) (hj : j ≤ 4398046511104) :
    Calls Tryz.prog 15 #[.pointer (some ⟨p, 0, none⟩), .int .i64 n] w fun e w' => e = .returned (.bool true) ∧ ∃ m', Act1 c ep m ns m' ns ∧ Shop w' B p c ep m' ns j ∧ Bel B w w' := by
  have hsz := hs.size
  obtain ⟨⟨sp, si, sd, sct, snv, skv, suv⟩, k, rfl, h, hk, ho, hkj, hnj⟩ := hs
  dsimp only at *
  obtain ⟨c0, _, _, _, _, _, c9, _, _, c12⟩ := h.cells
  have hpl := h.lt
  have hnow := ho.ok.now
  obtain ⟨ua, uc, hua⟩ := row_slice h.urow
  rw [untL_len] at hua
  dsimp only at hua c0 c9 c12 hpl
  subst hua
  have HT := hide (mtick_good h.mill hc n hn ⟨hnow.1, hl⟩ (ho.ok.binv hc) ho.ok.seg.inr (by have := ho.ok.seg.len400 hc; omega) (fun T Q he => by
    have h9 := (exps_ok (ep := ep) (c := c) (L := m.L) (num := m.num) (show m.now ≤ m.now + n by omega) ho.ok.tasks ho.ok.nt ho.ok.leas ho.ok.nq ho.ok.jobs he)
    have h8 := nodup_le (keysM T) (keysM m.TL) h9.2.1 (fun x hx => (h9.2.2.2.2.2.2.2 x).1 hx)
    have h7 := ho.ok.t800 hc
    simp [keysM] at h8
    omega))
  have hd : decide (100000 < m.now + n) = false := by simp; omega
  have hwr : IntKind.i64.wrap (m.now + n) = m.now + n := by rw [IntKind.wrap_i64]; omega
  have H := hide h
  have HO := hide ho
  obtain ⟨hn1, hn2⟩ := hn
  obtain ⟨hw1, hw2⟩ := hnow
  clear h ho c12
  go_enter Tryz.func15, Tryz.ntmps15
  go_wp2_with (first | (go_at_call 36; refine (ud HT).mono ?_; rintro e w1 ⟨rfl, TL1, QL1, TL', hM, hK, he, hq, hp⟩; have hS1 := (ud H).putMill hM hK; have hS2 := hS1.setNow (m.now + n); have d9 := (hS1.cells).2.2.2.2.2.2.1; dsimp only at d9; have df := fun j => rfree hS1.head j; have hpl1 := hS1.lt; dsimp only at hpl1 df; have HS2 := hide hS2; have HA := hide (Act1.ticked (c := c) (ep := ep) m ns n TL1 TL' QL1 hn1 hl he hq hp); have HU := hide (((ud HO).tick hc hf hn1 hl he hq hp).2 k); have HK := hide (Bel.mill (ud H).mill hK hsz (ud H).mlo); have HH1 := hide hS1.head; clear hM hK he hq hp hS1 hS2))
  have hsp : B ≤ sp := (ud H).lo
  have hst : ShopAt (w1.setCell ⟨sp, 9, none⟩ (.int .i64 (m.now + n))) B ⟨sp, si, sd, sct, snv, skv, .slice ua k uc⟩ c ep { m with now := m.now + n, TL := TL', QL := QL1 } (m.now + n) ns (tokL ep k) (cutT (m.now + n) 0 (untL ep m.QL k)) := by rw [cutT_zero]; exact ud HS2
  have hbs : Bel B w (w1.setCell ⟨sp, 9, none⟩ (.int .i64 (m.now + n))) := (ud HK).trans (Bel.set (ud HH1) (by decide) hsp _)
  have HST := hide hst
  have HBS := hide hbs
  have hul := untL_len ep m.QL k
  have HUL := hide hul
  clear hst hbs d9 df hpl1 c0 c9 hpl HS2 HT hul
  go_loopw [6] (fun y wr => ∃ (t : Nat), t ≤ k ∧ y = .int .i64 t ∧ ShopAt wr B ⟨sp, si, sd, sct, snv, skv, .slice ua k uc⟩ c ep { m with now := m.now + n, TL := TL', QL := QL1 } (m.now + n) ns (tokL ep k) (cutT (m.now + n) t (untL ep m.QL k)) ∧ Bel B w wr) (fun y _ => k - (intOf y).toNat)
  case atStart => exact ⟨0, Nat.zero_le _, rfl, ud HST, ud HBS⟩
  case round =>
    obtain ⟨t, htk, rfl, hS, hb⟩ := hrel
    obtain ⟨-, -, -, -, -, -, e9, -, -, e12⟩ := hS.cells
    dsimp only at e9 e12
    have hpr := hS.lt
    dsimp only at hpr
    have hki : (k : Int) ≤ 4398046511104 := by omega
    by_cases hlt : t < k
    · have hlti : (t : Int) < k := by omega
      have hcl := cutT_len (m.now + n) t (untL ep m.QL k)
      rw [ud HUL] at hcl
      obtain ⟨g, gc, hgv, hgl, hgc, hgf⟩ := unt_form hS.urow (j := t) (by rw [hcl]; exact hlt)
      rw [hcl] at hgv
      dsimp only at hgv
      cases hgv
      have hat : (cutT (m.now + n) t (untL ep m.QL k))[t]? = some (untM m.QL ⟨ep, (t : Int) + 1⟩) := by rw [cutT_at _ _ _ (by rw [ud HUL]; exact hlt), untL_at _ _ _ _ hlt]
      have hu : (cutT (m.now + n) t (untL ep m.QL k))[t]'(by rw [hcl]; exact hlt) = untM m.QL ⟨ep, (t : Int) + 1⟩ := by have := List.getElem?_eq_some_iff.1 hat; exact this.2
      rw [hu] at hgc
      have hsucc : cutT (m.now + n) (t + 1) (untL ep m.QL k) = (cutT (m.now + n) t (untL ep m.QL k)).set t (cutU (m.now + n) (untM m.QL ⟨ep, (t : Int) + 1⟩)) := by
        rw [cutT_succ _ _ _ (by rw [ud HUL]; exact hlt)]
        congr 2
        have := List.getElem?_eq_some_iff.1 (untL_at ep m.QL k t hlt)
        exact this.2
      have HSUC := hide hsucc
      have HAT := hide hat
      have HSS := hide hS
      have hset := hS.setUnt (g := g) (cap := uc) (by rw [hcl]) t 0
      have HSET := hide hset
      have hbg : B ≤ g := (hS.urow.lt g rfl).1
      have HBW := hide hb
      have hgp : ¬ g = sp := row_apart hS.head hS.urow (by decide) g rfl
      have hgp' : ¬ sp = g := fun e => hgp e.symm
      clear hS hcl hsucc hat hset hu hb
      generalize untM m.QL ⟨ep, (t : Int) + 1⟩ = u at *
      by_cases hle : u ≤ m.now + n
      · go_wp2_with fail
        go_still (by kernel_rfl)
        go_wp2_with fail
        go_roundw
        case rel =>
          refine ⟨t + 1, by omega, by go_num, ?_, ((ud HBW).trans (Bel.unt (ud HSS).urow _)).drew⟩
          rw [ud HSUC, cutU_low hle]
          exact (ud HSET).later (Below.refl _ _).drew
        case measure => simp [intOf]; omega
      · have hled : decide (u ≤ m.now + n) = false := by simpa using hle
        go_wp2_with fail
        go_still (by kernel_rfl)
        go_wp2_with fail
        go_roundw
        case rel =>
          refine ⟨t + 1, by omega, by go_num, ?_, (ud HBW).drew⟩
          rw [ud HSUC, cutU_high (by omega), set_self (ud HAT)]
          exact (ud HSS).later (Below.refl _ _).drew
        case measure => simp [intOf]; omega
    · have hltd : decide ((t : Int) < k) = false := by simp; omega
      have HSS := hide hS
      clear hS
      go_wp2_with fail
      go_ret
      have ht : t = k := by omega
      subst ht
      have h9 := ud HSS
      have h8 : cutT (m.now + n) t (untL ep m.QL t) = untL ep QL1 t := by
        have e1 := cutT_all (m.now + n) (untL ep m.QL t)
        rw [ud HUL] at e1
        rw [e1, ud HU]
      rw [h8] at h9
      exact ⟨rfl, _, ud HA, ⟨_, t, rfl, h9, hk, (ud HA).ok hc hf (ud HO), hkj, hnj⟩, hb⟩
end Go.Proofs.YtpbimdkclnekeaaGreat
