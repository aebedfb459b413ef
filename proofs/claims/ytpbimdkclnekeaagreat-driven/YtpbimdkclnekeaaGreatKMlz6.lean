import Derived.Test.YtpbimdkclnekeaaGreatKTel0
import Derived.Test.YtpbimdkclnekeaaGreatKPck2
import Derived.Test.YtpbimdkclnekeaaGreatKJn1

namespace Go.Proofs.YtpbimdkclnekeaaGreat
open Value (int)
open IntKind (i64)
open Go.RowKit Go.Maps Go.Shelf
open Go.ChangeMaps (setBlock)
set_option linter.unusedVariables false
theorem z11 {w : World} {g : Nat} {a0 a1 a2 a3 a4 a5 a6 a7 a8 a9 a10 : Value} {t : TypeId} {fr : Nat × Nat} (h : w.heap[g]? = some (.cells #[a0, a1, a2, a3, a4, a5, a6, a7, a8, a9, a10] t fr)) : w.cell? ⟨g, 0, none⟩ = some a0 /\ w.cell? ⟨g, 1, none⟩ = some a1 /\ w.cell? ⟨g, 2, none⟩ = some a2 /\ w.cell? ⟨g, 3, none⟩ = some a3 /\ w.cell? ⟨g, 4, none⟩ = some a4 /\ w.cell? ⟨g, 5, none⟩ = some a5 /\ w.cell? ⟨g, 6, none⟩ = some a6 /\ w.cell? ⟨g, 7, none⟩ = some a7 /\ w.cell? ⟨g, 8, none⟩ = some a8 /\ w.cell? ⟨g, 9, none⟩ = some a9 /\ w.cell? ⟨g, 10, none⟩ = some a10 := by
 refine ⟨?_, ?_, ?_, ?_, ?_, ?_, ?_, ?_, ?_, ?_, ?_⟩ <;> rw [zab h] <;> rfl
theorem bel_dal (X : World) (o : Obj) : Below X.heap.size X (X.alloc o).drew := ((Below.refl _ _).alloc (Nat.le_refl _) o).drew
theorem bel_d {X V : World} (h : Below X.drew.heap.size X.drew V) : Below X.heap.size X V := ⟨h.os, h.tape, h.output, h.size, h.block⟩
theorem bel_da {X V : World} {o : Obj} (h : Below (X.alloc o).drew.heap.size (X.alloc o).drew V) : Below X.heap.size X V := (bel_dal X o).trans (h.mono (bel_dal X o).size)
theorem bel_daj {X V : World} {o : Obj} (h : Below (X.alloc o).drew.heap.size (X.alloc o).drew V) : V.heap[X.heap.size]? = some o := (h.block _ (by show _ < (X.alloc o).heap.size; rw [zbm]; omega)).trans (zag X o)
theorem bel_a {X V : World} {o : Obj} (h : Below (X.alloc o).heap.size (X.alloc o) V) : Below X.heap.size X V := ((Below.refl _ _).alloc (Nat.le_refl _) o).trans (h.mono ((Below.refl X.heap.size X).alloc (Nat.le_refl _) o).size)
theorem bel_aj {X V : World} {o : Obj} (h : Below (X.alloc o).heap.size (X.alloc o) V) : V.heap[X.heap.size]? = some o := (h.block _ (by rw [zbm]; omega)).trans (zag X o)
theorem kep_a {f : Nat -> Prop} {X V : World} {o : Obj} (h : zaj f (X.alloc o) V) : zaj f X V := (zaj.of_below ((Below.refl X.heap.size X).alloc (Nat.le_refl _) o)).trans h (fun _ _ e => e)
theorem kep_aj {f : Nat -> Prop} {X V : World} {o : Obj} (h : zaj f (X.alloc o) V) (hn : ¬ f X.heap.size) : V.heap[X.heap.size]? = some o := h.heap (zag X o) hn
abbrev noJob : Value := .agg #[int i64 0, int i64 0, int i64 0, int i64 0, int i64 0, int i64 0, int i64 0, int i64 0, int i64 0, int i64 0, int i64 0]
set_option maxRecDepth 20000 in
set_option maxHeartbeats 4000000 in
theorem mpick_any {w : World} {i : Ids} {c : Cf} {ep : Int} {m : MS} (h : zat w i c ep m) (hc : c.ok) (slot : Int) (hsl : 0 <= slot /\ slot < c.s) (hnow : 0 <= m.now /\ m.now <= 100000) (hT : ∀ p ∈ m.TL, TskIn c m.now p.2) (hql : m.QL.length <= 100000) (hnum : 0 <= m.num /\ m.num <= 1000000000000000) (hep : zdg ep) (hqn : ∀ q ∈ m.QL, q.1.num <= m.num) (hu : 0 <= zam m.L /\ zam m.L <= 1000) :
  Calls Tryz.prog 16 #[.pointer (some ⟨i.x, 0, none⟩), int i64 slot] w fun e w' => (e = .returned (.tuple #[noJob, int i64 6]) /\ Below w.heap.size w w' /\ m.QL.any (fun p => p.2.slot == slot) = true) \/ (e = .returned (.tuple #[noJob, int i64 7]) /\ Below w.heap.size w w' /\ ∀ p ∈ m.TL, freeB m.QL m.now p.2 = false) \/ ∃ p, p ∈ m.TL /\ freeB m.QL m.now p.2 = true /\ e = .returned (.tuple #[.agg #[int i64 p.2.kd, int i64 p.2.s.t, int i64 p.2.s.ser, int i64 p.2.s.win, int i64 p.2.since, int i64 p.2.tries, int i64 p.2.rest, int i64 ep, int i64 (m.num + 1), int i64 slot, int i64 (m.now + c.le)], int i64 0]) /\ zat w' i c ep { m with num := m.num + 1, QL := zdz m.QL ⟨ep, m.num + 1⟩ ⟨p.2.kd, p.2.s, slot, m.now + c.le⟩ } /\ zaj (zbx i) w w' := by
 have hba : Below w.heap.size w (w.alloc (.cells #[int i64 0, int i64 0, int i64 0, int i64 0, int i64 0, int i64 0, int i64 0, int i64 0, int i64 0, int i64 0, int i64 0] 51)) := (Below.refl _ _).alloc (Nat.le_refl _) _
 have q0 := zag w (.cells #[int i64 0, int i64 0, int i64 0, int i64 0, int i64 0, int i64 0, int i64 0, int i64 0, int i64 0, int i64 0, int i64 0] 51)
 have qz := zbm w (.cells #[int i64 0, int i64 0, int i64 0, int i64 0, int i64 0, int i64 0, int i64 0, int i64 0, int i64 0, int i64 0, int i64 0] 51)
 have hX := h.later hba
 obtain ⟨a, cap, htv, hts⟩ := h.ts
 obtain ⟨c0, c1, c2, c3, c4, c5, c6, -, c8, -, c10⟩ := hX.cells
 rw [htv] at c6
 have hxl := hX.lt
 have HSL := fun W => zac (lslot_any c hc a cap slot W)
 rw [show inB slot 0 (c.s - 1) = true from by rw [inB_iff]; omega] at HSL
 have HBU := fun W hW => zac (busy_any ((h.later (w' := W) hW).board) slot hql)
 have HTI := fun W hW => zac (tightM_any (h.later (w' := W) hW) hc hu)
 have HPI := fun W hW tight => zac (bpick_any (a := a) (cap := cap) (htv ▸ (h.later (w' := W) hW).board) hc (hts.below hW) slot m.now tight hnow hT hql hnum hep hqn)
 have H := zac h
 have HBA := zac hba
 have Q0 := zac q0
 have QZ := zac qz
 clear h hX hba q0 qz hts
 go_enter Tryz.func16, Tryz.ntmps16
 have hqx : w.heap.size < (w.alloc (.cells #[int i64 0, int i64 0, int i64 0, int i64 0, int i64 0, int i64 0, int i64 0, int i64 0, int i64 0, int i64 0, int i64 0] 51)).heap.size := by rw [ud QZ]; omega
 by_cases hbs : m.QL.any (fun p => p.2.slot == slot) = true
 ·rw [hbs] at HBU
  go_wp2_with (first
   | (go_at_call 37; refine (ud (HSL _)).mono ?_; rintro e w1 ⟨rfl, hb1⟩; have m10 := (hb1.cell (p := ⟨i.x, 10, none⟩) hxl).trans c10; have hxl1 := Nat.lt_of_lt_of_le hxl hb1.size; have HB1 := zac ((ud HBA).trans (hb1.mono (ud HBA).size)); have HR1 := zac ((hb1.block _ hqx).trans (ud Q0)); clear hb1)
   | (go_at_call 38; refine (ud (HBU _ (ud HB1))).mono ?_; rintro e w2 ⟨rfl, hb2⟩; have HB2 := zac ((ud HB1).trans (hb2.mono (ud HB1).size)); have hr2 := (hb2.block _ (zaa (ud HR1))).trans (ud HR1); have z0 := (z11 hr2); obtain ⟨z0, z1, z2, z3, z4, z5, z6, z7, z8, z9, z10⟩ := z0; have zf := fun j => zax hr2 j; have zl := zaa hr2; have HR2 := zac hr2; clear hb2 hr2))
  have hf := row11 (ud HR2) (int i64 0) (int i64 0) (int i64 0) (int i64 0) (int i64 0) (int i64 0) (int i64 0) (int i64 0) (int i64 0) (int i64 0) (int i64 0)
  refine bodyPost_ret (zbh Tryz.results16 _ _ w.heap.size _ _ _ _ _ rfl rfl hf Tryz.underlying51 rfl (by kernel_rfl)) rfl ?_
  have kT := kept11 (w := w2) (g := w.heap.size) (int i64 0) (int i64 0) (int i64 0) (int i64 0) (int i64 0) (int i64 0) (int i64 0) (int i64 0) (int i64 0) (int i64 0) (int i64 0)
  exact .inl ⟨rfl, (ud HB2).trans (kT.below (ud HB2).size (fun k e => by omega)), hbs⟩
 ·have hbf : m.QL.any (fun p => p.2.slot == slot) = false := by simpa using hbs
  rw [hbf] at HBU
  go_wp2_with (first
   | (go_at_call 37; refine (ud (HSL _)).mono ?_; rintro e w1 ⟨rfl, hb1⟩; have m10 := (hb1.cell (p := ⟨i.x, 10, none⟩) hxl).trans c10; have hxl1 := Nat.lt_of_lt_of_le hxl hb1.size; have HB1 := zac ((ud HBA).trans (hb1.mono (ud HBA).size)); have HR1 := zac ((hb1.block _ hqx).trans (ud Q0)); have m8 := (hb1.cell (p := ⟨i.x, 8, none⟩) hxl).trans c8; clear hb1)
   | (go_at_call 38; refine (ud (HBU _ (ud HB1))).mono ?_; rintro e w2 ⟨rfl, hb2⟩; have n10 := (hb2.cell (p := ⟨i.x, 10, none⟩) hxl1).trans m10; have n8 := (hb2.cell (p := ⟨i.x, 8, none⟩) hxl1).trans m8; have hxl2 := Nat.lt_of_lt_of_le hxl1 hb2.size; have HB2 := zac ((ud HB1).trans (hb2.mono (ud HB1).size)); have HR2 := zac ((hb2.block _ (zaa (ud HR1))).trans (ud HR1)); clear hb2))
  have hM2 := (ud H).later (ud HB2)
  have hfx := hM2.x_board
  have HT2 := fun W (hW : Below w2.heap.size w2 W) => HTI W ((ud HB2).trans (hW.mono (ud HB2).size))
  have HP2 := fun W (hW : Below w2.heap.size w2 W) => HPI W ((ud HB2).trans (hW.mono (ud HB2).size)) (zbu (zam m.L) c.qu)
  have HM2 := zac hM2
  have hrl : w.heap.size < w2.heap.size := zaa (ud HR2)
  clear HTI HPI HBU HSL hM2 c0 c1 c2 c3 c4 c5 c6 c8 c10 m8 m10 hxl hxl1
  have hn0 : ¬ i.x = w2.heap.size := by omega
  have hn1 : ¬ w2.heap.size = i.x := by omega
  have hrn : w.heap.size < w2.heap.size := hrl
  rename_i K1 hK1
  have hxb : ¬ (i.x = i.b \/ i.x = i.qb) := fun e => by
   rcases e with e | e
   ·exact hfx i.b (.inl rfl) e.symm
   ·exact hfx i.qb (.inr (.inr rfl)) e.symm
  have hbl1 : i.b < w2.heap.size := (ud HM2).foot_lt i.b (.inr (.inr (.inl rfl)))
  have hbl2 : i.qb < w2.heap.size := (ud HM2).foot_lt i.qb (.inr (.inr (.inr (.inr rfl))))
  clear hfx
  by_cases hfr : ∀ p ∈ m.TL, freeB m.QL m.now p.2 = false
  ·have HP3 := fun W (hW : Below w2.heap.size w2 W) => zac ((ud (HP2 W hW)).mono (fun e W' hh => hh.elim (fun h => (⟨h.1, h.2.1⟩ : e = .returned (.tuple #[.agg #[int i64 0, int i64 0, int i64 0, int i64 0, int i64 0, int i64 0, int i64 0, int i64 0, int i64 0, int i64 0, int i64 0], .bool false]) /\ Below W.heap.size W W')) (fun ⟨p, hp, hf, _⟩ => absurd (hfr p hp) (by rw [hf]; simp))))
   clear HP2
   have cont : ∀ (bj : Nat) (T : World), Hid (T.heap[w.heap.size]? = some (.cells #[int i64 0, int i64 0, int i64 0, int i64 0, int i64 0, int i64 0, int i64 0, int i64 0, int i64 0, int i64 0, int i64 0] 51 (0, 0))) -> Hid (Below w.heap.size w T) -> K1 { tmps := #[.pointer (some ⟨i.x, 0, none⟩), int i64 slot, undef, undef, .pointer (some ⟨w.heap.size, 0, none⟩), int i64 0, .pointer (some ⟨bj, 0, none⟩), .bool false, .pointer (some ⟨i.x, 0, none⟩), .pointer (some ⟨i.x, 0, none⟩), .pointer (some ⟨i.x, 0, none⟩), .agg #[int i64 c.s, int i64 c.le, int i64 c.la, int i64 c.wi, int i64 c.ke, int i64 c.qu, .slice a c.n cap], int i64 slot, .bool true, .bool false, .bool false, .pointer (some ⟨i.x, 0, none⟩), .pointer (some ⟨i.x, 0, none⟩), .pointer (some ⟨i.x, 10, none⟩), .pointer (some ⟨i.b, 0, none⟩), int i64 slot, .bool false, .bool false, undef, .tuple #[.agg #[int i64 0, int i64 0, int i64 0, int i64 0, int i64 0, int i64 0, int i64 0, int i64 0, int i64 0, int i64 0, int i64 0], .bool false], .pointer (some ⟨i.x, 0, none⟩), .pointer (some ⟨i.x, 0, none⟩), .pointer (some ⟨i.x, 10, none⟩), .pointer (some ⟨i.b, 0, none⟩), int i64 slot, .pointer (some ⟨i.x, 0, none⟩), .pointer (some ⟨i.x, 0, none⟩), .pointer (some ⟨i.x, 8, none⟩), int i64 m.now, .pointer (some ⟨i.x, 0, none⟩), .bool (zbu (zam m.L) c.qu), .tuple #[.agg #[int i64 0, int i64 0, int i64 0, int i64 0, int i64 0, int i64 0, int i64 0, int i64 0, int i64 0, int i64 0, int i64 0], .bool false], .agg #[int i64 0, int i64 0, int i64 0, int i64 0, int i64 0, int i64 0, int i64 0, int i64 0, int i64 0, int i64 0, int i64 0], .bool false, undef, undef, undef, undef], defers := [] } T := by
    intro bj T HR HB
    refine hK1 _ _ ?_
    clear hK1 HP3 HT2
    obtain ⟨z0, z1, z2, z3, z4, z5, z6, z7, z8, z9, z10⟩ := z11 (ud HR)
    have zf := fun j => zax (ud HR) j
    have zl := zaa (ud HR)
    go_wp2_with fail
    have hf := row11 (ud HR) (int i64 0) (int i64 0) (int i64 0) (int i64 0) (int i64 0) (int i64 0) (int i64 0) (int i64 0) (int i64 0) (int i64 0) (int i64 0)
    refine bodyPost_ret (zbh Tryz.results16 _ _ w.heap.size _ _ _ _ _ rfl rfl hf Tryz.underlying51 rfl (by kernel_rfl)) rfl ?_
    have kT := kept11 (w := T) (g := w.heap.size) (int i64 0) (int i64 0) (int i64 0) (int i64 0) (int i64 0) (int i64 0) (int i64 0) (int i64 0) (int i64 0) (int i64 0) (int i64 0)
    exact .inr (.inl ⟨rfl, (ud HB).trans (kT.below (ud HB).size (fun k e => by omega)), hfr⟩)
   go_region_held3 (fun w' => w'.cell? ⟨i.x, 10, none⟩ = some (.pointer (some ⟨i.b, 0, none⟩)) /\ w'.cell? ⟨i.x, 8, none⟩ = some (int i64 m.now)) (go_keep) (first
    | (go_at_call 35; (with_reducible refine (ud (HT2 _ ?hb)).mono ?_); (case hb => (first | exact (Below.refl _ _).drew | exact bel_dal w2 _)); rintro e V1 ⟨rfl, hv0⟩; have hv : Below w2.heap.size w2 V1 := (by first | exact bel_d hv0 | exact bel_da hv0); (try have hj := bel_daj hv0); have s10 := (hv.cell (p := ⟨i.x, 10, none⟩) hxl2).trans n10; have s8 := (hv.cell (p := ⟨i.x, 8, none⟩) hxl2).trans n8; have hxl3 := Nat.lt_of_lt_of_le hxl2 hv.size; have hn2 : ¬ i.x = V1.heap.size := (by omega); have hn3 : ¬ V1.heap.size = i.x := (by omega); clear hv0)
    | (go_at_call 39; (with_reducible refine (ud (HP3 _ ?hb)).mono ?_); (case hb => (first | exact hv | exact hv.alloc hv.size _)); rintro e V2 ⟨rfl, hv0⟩; have hv2 : Below V1.heap.size V1 V2 := (by first | exact hv0 | exact bel_a hv0); (first | (have hj2 := bel_aj hv0) | (have hj2 := (hv2.block _ (zaa hj)).trans hj) | skip); have t10 := (hv2.cell (p := ⟨i.x, 10, none⟩) hxl3).trans s10; have t8 := (hv2.cell (p := ⟨i.x, 8, none⟩) hxl3).trans s8; have hxl4 := Nat.lt_of_lt_of_le hxl3 hv2.size; (try (obtain ⟨j0, j1, j2, j3, j4, j5, j6, j7, j8, j9, j10⟩ := z11 hj2; have jf := fun j => zax hj2 j; have jl := zaa hj2; have HJ := zac hj2; clear hj2)); have HV := zac hv; have HV2 := zac hv2; clear hv0 hv hv2))
   all_goals
    have b02 := (ud HB2).trans ((ud HV).mono (ud HB2).size)
    have b03 := b02.trans ((ud HV2).mono b02.size)
    have hl1 := (ud HV).size
    have hr3 := ((ud HV2).block _ (Nat.lt_of_lt_of_le hrn hl1)).trans (((ud HV).block _ hrn).trans (ud HR2))
   ·exact cont _ _ (zac ((Below.heap_alloc _ _ _ (zaa hr3)).trans hr3)) (zac (b03.alloc b03.size _))
   ·have kT := kept11 (w := V2) (g := V1.heap.size) (int i64 0) (int i64 0) (int i64 0) (int i64 0) (int i64 0) (int i64 0) (int i64 0) (int i64 0) (int i64 0) (int i64 0) (int i64 0)
    exact cont _ _ (zac (kT.heap hr3 (by omega))) (zac (b03.trans (kT.below b03.size (fun k e => by omega))))
   ·have kT := kept11 (w := V2) (g := w2.heap.size) (int i64 0) (int i64 0) (int i64 0) (int i64 0) (int i64 0) (int i64 0) (int i64 0) (int i64 0) (int i64 0) (int i64 0) (int i64 0)
    exact cont _ _ (zac (kT.heap hr3 (by omega))) (zac (b03.trans (kT.below b03.size (fun k e => by omega))))
  ·have HP3 := fun W (hW : Below w2.heap.size w2 W) => zac ((ud (HP2 W hW)).mono (fun e W' hh => hh.elim (fun h => absurd h.2.2 hfr) id))
   clear HP2
   have cont : ∀ (p : Jk × Tsk) (bj : Nat) (T : World), Hid (p ∈ m.TL /\ freeB m.QL m.now p.2 = true) -> Hid (T.heap[bj]? = some (.cells #[int i64 p.2.kd, int i64 p.2.s.t, int i64 p.2.s.ser, int i64 p.2.s.win, int i64 p.2.since, int i64 p.2.tries, int i64 p.2.rest, int i64 ep, int i64 (m.num + 1), int i64 slot, int i64 (m.now + c.le)] 51 (0, 0))) -> Hid (T.heap[w.heap.size]? = some (.cells #[int i64 0, int i64 0, int i64 0, int i64 0, int i64 0, int i64 0, int i64 0, int i64 0, int i64 0, int i64 0, int i64 0] 51 (0, 0))) -> Hid (w.heap.size < bj) -> Hid (zat T i c ep { m with num := m.num + 1, QL := zdz m.QL ⟨ep, m.num + 1⟩ ⟨p.2.kd, p.2.s, slot, m.now + c.le⟩ }) -> Hid (zaj (zbx i) w T) -> K1 { tmps := #[.pointer (some ⟨i.x, 0, none⟩), int i64 slot, undef, undef, .pointer (some ⟨w.heap.size, 0, none⟩), int i64 0, .pointer (some ⟨bj, 0, none⟩), .bool true, .pointer (some ⟨i.x, 0, none⟩), .pointer (some ⟨i.x, 0, none⟩), .pointer (some ⟨i.x, 0, none⟩), .agg #[int i64 c.s, int i64 c.le, int i64 c.la, int i64 c.wi, int i64 c.ke, int i64 c.qu, .slice a c.n cap], int i64 slot, .bool true, .bool false, .bool false, .pointer (some ⟨i.x, 0, none⟩), .pointer (some ⟨i.x, 0, none⟩), .pointer (some ⟨i.x, 10, none⟩), .pointer (some ⟨i.b, 0, none⟩), int i64 slot, .bool false, .bool false, undef, .tuple #[.agg #[int i64 p.2.kd, int i64 p.2.s.t, int i64 p.2.s.ser, int i64 p.2.s.win, int i64 p.2.since, int i64 p.2.tries, int i64 p.2.rest, int i64 ep, int i64 (m.num + 1), int i64 slot, int i64 (m.now + c.le)], .bool true], .pointer (some ⟨i.x, 0, none⟩), .pointer (some ⟨i.x, 0, none⟩), .pointer (some ⟨i.x, 10, none⟩), .pointer (some ⟨i.b, 0, none⟩), int i64 slot, .pointer (some ⟨i.x, 0, none⟩), .pointer (some ⟨i.x, 0, none⟩), .pointer (some ⟨i.x, 8, none⟩), int i64 m.now, .pointer (some ⟨i.x, 0, none⟩), .bool (zbu (zam m.L) c.qu), .tuple #[.agg #[int i64 p.2.kd, int i64 p.2.s.t, int i64 p.2.s.ser, int i64 p.2.s.win, int i64 p.2.since, int i64 p.2.tries, int i64 p.2.rest, int i64 ep, int i64 (m.num + 1), int i64 slot, int i64 (m.now + c.le)], .bool true], .agg #[int i64 p.2.kd, int i64 p.2.s.t, int i64 p.2.s.ser, int i64 p.2.s.win, int i64 p.2.since, int i64 p.2.tries, int i64 p.2.rest, int i64 ep, int i64 (m.num + 1), int i64 slot, int i64 (m.now + c.le)], .bool true, undef, undef, undef, undef], defers := [] } T := by
    intro p bj T HPP HJ HR HBJ HM HK
    refine hK1 _ _ ?_
    clear hK1 HP3 HT2
    obtain ⟨z0, z1, z2, z3, z4, z5, z6, z7, z8, z9, z10⟩ := z11 (ud HR)
    obtain ⟨y0, y1, y2, y3, y4, y5, y6, y7, y8, y9, y10⟩ := z11 (ud HJ)
    have zf := fun j => zax (ud HR) j
    have zl := zaa (ud HR)
    have yl := zaa (ud HJ)
    go_wp2_with fail
    have hf := row11 (ud HR) (int i64 p.2.kd) (int i64 p.2.s.t) (int i64 p.2.s.ser) (int i64 p.2.s.win) (int i64 p.2.since) (int i64 p.2.tries) (int i64 p.2.rest) (int i64 ep) (int i64 (m.num + 1)) (int i64 slot) (int i64 (m.now + c.le))
    refine bodyPost_ret (zbh Tryz.results16 _ _ w.heap.size _ _ _ _ _ rfl rfl hf Tryz.underlying51 rfl (by kernel_rfl)) rfl ?_
    have kT := kept11 (w := T) (g := w.heap.size) (int i64 p.2.kd) (int i64 p.2.s.t) (int i64 p.2.s.ser) (int i64 p.2.s.win) (int i64 p.2.since) (int i64 p.2.tries) (int i64 p.2.rest) (int i64 ep) (int i64 (m.num + 1)) (int i64 slot) (int i64 (m.now + c.le))
    have hlt := (ud H).foot_lt
    exact .inr (.inr ⟨p, (ud HPP).1, (ud HPP).2, rfl, (ud HM).kept kT (fun k hk e => by have := hlt k hk; omega), (ud HK).trans kT (fun k hk e => by omega)⟩)
   go_region_held3 (fun w' => w'.cell? ⟨i.x, 10, none⟩ = some (.pointer (some ⟨i.b, 0, none⟩)) /\ w'.cell? ⟨i.x, 8, none⟩ = some (int i64 m.now)) (go_keep) (first
    | (go_at_call 35; (with_reducible refine (ud (HT2 _ ?hb)).mono ?_); (case hb => (first | exact (Below.refl _ _).drew | exact bel_dal w2 _)); rintro e V1 ⟨rfl, hv0⟩; have hv : Below w2.heap.size w2 V1 := (by first | exact bel_d hv0 | exact bel_da hv0); (try have hj := bel_daj hv0); have s10 := (hv.cell (p := ⟨i.x, 10, none⟩) hxl2).trans n10; have s8 := (hv.cell (p := ⟨i.x, 8, none⟩) hxl2).trans n8; have hxl3 := Nat.lt_of_lt_of_le hxl2 hv.size; have hn2 : ¬ i.x = V1.heap.size := (by omega); have hn3 : ¬ V1.heap.size = i.x := (by omega); clear hv0)
    | (go_at_call 39; (with_reducible refine (ud (HP3 _ ?hb)).mono ?_); (case hb => (first | exact hv | exact hv.alloc hv.size _)); rintro e V2 ⟨p, hp, hpf, rfl, hB9, hk0⟩; have hk9 : zaj (fun k => k = i.b \/ k = i.qb) V1 V2 := (by first | exact hk0 | exact kep_a hk0); (first | (have hj2 := kep_aj hk0 (fun e => by have := hv.size; omega)) | (have hj2 := hk9.heap hj (fun e => by omega)) | skip); have t10 := (zbc (i := 10) hk9 (fun e => hxb e) hxl3).trans s10; have t8 := (zbc (i := 8) hk9 (fun e => hxb e) hxl3).trans s8; have hxl4 := Nat.lt_of_lt_of_le hxl3 hk9.size; (try (obtain ⟨j0, j1, j2, j3, j4, j5, j6, j7, j8, j9, j10⟩ := z11 hj2; have jf := fun j => zax hj2 j; have jl := zaa hj2; have HJ := zac hj2; clear hj2)); have HV := zac hv; have HB9 := zac hB9; have HK9 := zac hk9; have HPP : Hid (p ∈ m.TL /\ freeB m.QL m.now p.2 = true) := ⟨hp, hpf⟩; clear hB9 hk9 hk0 hv hp hpf))
   all_goals
    have b02 := (ud HB2).trans ((ud HV).mono (ud HB2).size)
    have hM1 := (ud HM2).later (ud HV)
    have hM3 := hM1.putBoard (by rw [htv]; exact ud HB9) ((ud HK9).mono (fun k _ e => e.elim .inl (fun e => .inr (.inr e))))
    have hl1 := (ud HV).size
    have hl2 := (ud HK9).size
    have hr3 := (ud HK9).heap (((ud HV).block _ hrn).trans (ud HR2)) (fun e => by have := (ud H).foot_lt i.b (.inr (.inr (.inl rfl))); have := (ud H).foot_lt i.qb (.inr (.inr (.inr (.inr rfl)))); omega)
    have k03 : zaj (zbx i) w V2 := (zaj.of_below (f := zbx i) b02).trans ((ud HK9).mono (fun k _ e => .inr (.inr (e.elim .inl (fun e => .inr (.inr e)))))) (fun _ _ e => e)
    have hlt3 := hM3.foot_lt
    have hlt2 := (ud HM2).foot_lt
   ·exact cont p _ _ HPP (zac (zag V2 _)) (zac ((Below.heap_alloc _ _ _ (zaa hr3)).trans hr3)) (zac (by omega)) (zac (hM3.later ((Below.refl _ _).alloc (Nat.le_refl _) _))) (zac (k03.trans (zaj.of_below ((Below.refl _ _).alloc (Nat.le_refl _) _)) (fun _ _ e => e)))
   ·have kT := kept11 (w := V2) (g := V1.heap.size) (int i64 p.2.kd) (int i64 p.2.s.t) (int i64 p.2.s.ser) (int i64 p.2.s.win) (int i64 p.2.since) (int i64 p.2.tries) (int i64 p.2.rest) (int i64 ep) (int i64 (m.num + 1)) (int i64 slot) (int i64 (m.now + c.le))
    exact cont p _ _ HPP (zac (row11 (ud HJ) (int i64 p.2.kd) (int i64 p.2.s.t) (int i64 p.2.s.ser) (int i64 p.2.s.win) (int i64 p.2.since) (int i64 p.2.tries) (int i64 p.2.rest) (int i64 ep) (int i64 (m.num + 1)) (int i64 slot) (int i64 (m.now + c.le)))) (zac (kT.heap hr3 (by omega))) (zac (by omega)) (zac (hM3.kept kT (fun k hk e => by have := hlt2 k hk; omega))) (zac (k03.trans kT (fun k hk e => by omega)))
   ·have kT := kept11 (w := V2) (g := w2.heap.size) (int i64 p.2.kd) (int i64 p.2.s.t) (int i64 p.2.s.ser) (int i64 p.2.s.win) (int i64 p.2.since) (int i64 p.2.tries) (int i64 p.2.rest) (int i64 ep) (int i64 (m.num + 1)) (int i64 slot) (int i64 (m.now + c.le))
    exact cont p _ _ HPP (zac (row11 (ud HJ) (int i64 p.2.kd) (int i64 p.2.s.t) (int i64 p.2.s.ser) (int i64 p.2.s.win) (int i64 p.2.since) (int i64 p.2.tries) (int i64 p.2.rest) (int i64 ep) (int i64 (m.num + 1)) (int i64 slot) (int i64 (m.now + c.le)))) (zac (kT.heap hr3 (by omega))) (zac (by omega)) (zac (hM3.kept kT (fun k hk e => by have := hlt2 k hk; omega))) (zac (k03.trans kT (fun k hk e => by omega)))
end Go.Proofs.YtpbimdkclnekeaaGreat
