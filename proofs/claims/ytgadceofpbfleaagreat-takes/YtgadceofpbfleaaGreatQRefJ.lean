import Derived.Test.YtgadceofpbfleaaGreatQRefI
import Derived.Deep.RegionHeld3

/- Walks: Copy of the document's mill (written by wip/mkcopy.py). -/
namespace Go.Proofs.YtgadceofpbfleaaGreat
open Go.RowKit
set_option linter.unusedVariables false

theorem owns_base2 {w : World} {base base' size n : Nat} {e : TypeId} {v : Value} {xs : List Value} (h : w.ownsRow base e size v n xs) (hb : base' ≤ base) : w.ownsRow base' e size v n xs := owns_base h hb
theorem copy_row {X : World} (t e : TypeId) (size bytes : Nat) {z : Value} (ht : Tryz.prog.underlying t = some (.slice e)) (hinfo : (Tryz.prog.info? e).map (fun i => (i.zero, i.size, i.bytes)) = some (some z, size, bytes)) (hzs : z.cells.size = size) (hsz : 0 < size) {B : Nat} {src : Value} {n : Nat} {xs : List Value} (hsrc : X.ownsRow B e size src n xs) (h1 : ∀ u ∈ xs, u.oneCell' = true) (h63 : n ≤ maxLen) (hbytes : n * bytes ≤ 140737488355328) :
    ∃ a c w', (Builtin.append_ #[t, t] t #[.slice none 0 0, src]).run Tryz.prog X = .ok (.slice a n c) w' ∧ w'.ownsRow X.heap.size e size (.slice a n c) n xs ∧ Below X.heap.size X w' := by
  cases hq : Tryz.prog.info? e with
  | none => simp [hq] at hinfo
  | some i =>
    simp only [hq, Option.map_some, Option.some.injEq, Prod.mk.injEq] at hinfo
    obtain ⟨hz, hsize, hby⟩ := hinfo
    exact run_append_copy (P := Tryz.prog) X t t e i z size bytes ht hq hz hsize hby hzs hsz B src n xs hsrc h1 h63 hbytes
section
variable {B : Nat} {w : World} {p : Nat} {m : RM} {tv nv pv gv kv z : Value}
theorem RefAt.putNums {l : List Nm} (h : RefAt B w p m tv nv pv gv kv) (hz : w.ownsRow B 155 3 z l.length (l.flatMap nmV)) : RefAt B (w.setCell ⟨p, 8, none⟩ z) p { m with nums := l } tv z pv gv kv := by
  have hk : Kept (fun k => k = p) w (w.setCell ⟨p, 8, none⟩ z) := kept_set (Kept.refl _ _) rfl
  exact ⟨rset (i := 8) h.head z, h.base, owns_kept h.trow hk (row_apart h.head h.trow (by decide)), owns_kept hz hk (row_apart h.head hz (by decide)), owns_kept h.prow hk (row_apart h.head h.prow (by decide)), owns_kept h.grow hk (row_apart h.head h.grow (by decide)), owns_kept h.krow hk (row_apart h.head h.krow (by decide))⟩
theorem RefAt.putPub {l : List Sg} (h : RefAt B w p m tv nv pv gv kv) (hz : w.ownsRow B 126 3 z l.length (l.flatMap sgV)) : RefAt B (w.setCell ⟨p, 9, none⟩ z) p { m with pub := l } tv nv z gv kv := by
  have hk : Kept (fun k => k = p) w (w.setCell ⟨p, 9, none⟩ z) := kept_set (Kept.refl _ _) rfl
  exact ⟨rset (i := 9) h.head z, h.base, owns_kept h.trow hk (row_apart h.head h.trow (by decide)), owns_kept h.nrow hk (row_apart h.head h.nrow (by decide)), owns_kept hz hk (row_apart h.head hz (by decide)), owns_kept h.grow hk (row_apart h.head h.grow (by decide)), owns_kept h.krow hk (row_apart h.head h.krow (by decide))⟩
theorem RefAt.putGone {l : List Sg} (h : RefAt B w p m tv nv pv gv kv) (hz : w.ownsRow B 126 3 z l.length (l.flatMap sgV)) : RefAt B (w.setCell ⟨p, 10, none⟩ z) p { m with gone := l } tv nv pv z kv := by
  have hk : Kept (fun k => k = p) w (w.setCell ⟨p, 10, none⟩ z) := kept_set (Kept.refl _ _) rfl
  exact ⟨rset (i := 10) h.head z, h.base, owns_kept h.trow hk (row_apart h.head h.trow (by decide)), owns_kept h.nrow hk (row_apart h.head h.nrow (by decide)), owns_kept h.prow hk (row_apart h.head h.prow (by decide)), owns_kept hz hk (row_apart h.head hz (by decide)), owns_kept h.krow hk (row_apart h.head h.krow (by decide))⟩
theorem RefAt.putPicks (h : RefAt B w p m tv nv pv gv kv) (n : Int) : RefAt B (w.setCell ⟨p, 13, none⟩ (.int .i64 n)) p { m with picks := n } tv nv pv gv kv := by
  have hk : Kept (fun k => k = p) w (w.setCell ⟨p, 13, none⟩ (.int .i64 n)) := kept_set (Kept.refl _ _) rfl
  exact ⟨rset (i := 13) h.head _, h.base, owns_kept h.trow hk (row_apart h.head h.trow (by decide)), owns_kept h.nrow hk (row_apart h.head h.nrow (by decide)), owns_kept h.prow hk (row_apart h.head h.prow (by decide)), owns_kept h.grow hk (row_apart h.head h.grow (by decide)), owns_kept h.krow hk (row_apart h.head h.krow (by decide))⟩
end

set_option maxRecDepth 8000 in
set_option maxHeartbeats 4000000 in
theorem rcopy_any {B : Nat} {w : World} {p : Nat} {m : RM} {tv nv pv gv kv : Value} (h : RefAt B w p m tv nv pv gv kv) (hc : m.c.ok) (hnl : m.nums.length ≤ 1000000000) (hgl : m.gone.length ≤ 1000000000) (hpl : m.pub.length ≤ 1000000000) (hkl : m.tasks.length ≤ 1000000000) :
    Calls Tryz.prog 32 #[.pointer (some ⟨p, 0, none⟩)] w fun e w' => ∃ q tv' nv' pv' gv' kv', e = .returned (.pointer (some ⟨q, 0, none⟩)) ∧ RefAt w.heap.size w' q m tv' nv' pv' gv' kv' ∧ Below w.heap.size w w' := by
  obtain ⟨a, cap, htv⟩ := row_slice h.trow
  subst htv
  obtain ⟨c0, c1, c2, c3, c4, c5, c6⟩ := h.conf
  obtain ⟨-, -, -, -, -, r12, -⟩ := h.rest
  have hp := h.lt
  have HM := hide h
  have HN0 := hide (rnew_any m.c hc a cap m.epoch w (TS.of_owns h.trow))
  have HN1 := hide (rnew_any m.c hc a cap m.epoch w.drew (TS.of_owns h.trow))
  clear h
  go_enter Tryz.func32, Tryz.ntmps32
  go_wp2_with fail
  go_region_held3 (fun w' => w'.cell? ⟨p, 0, none⟩ = some (.int .i64 m.c.s) ∧ w'.cell? ⟨p, 1, none⟩ = some (.int .i64 m.c.le) ∧ w'.cell? ⟨p, 2, none⟩ = some (.int .i64 m.c.la) ∧ w'.cell? ⟨p, 3, none⟩ = some (.int .i64 m.c.wi) ∧ w'.cell? ⟨p, 4, none⟩ = some (.int .i64 m.c.ke) ∧ w'.cell? ⟨p, 5, none⟩ = some (.int .i64 m.c.qu) ∧ w'.cell? ⟨p, 6, none⟩ = some (.slice a m.c.n cap) ∧ w'.cell? ⟨p, 12, none⟩ = some (.int .i64 m.epoch)) (go_keep) (first
    | (go_at_call 16; (first | refine (unhide HN1).mono ?_ | refine (unhide HN0).mono ?_); rintro e X0 ⟨q, tq, rfl, hr0, hb0⟩; have hbX : Below w.heap.size w X0 := ⟨hb0.os, hb0.tape, hb0.output, hb0.size, hb0.block⟩; clear hb0; have HRX0 := hide (show RefAt w.heap.size X0 q ⟨m.c, 0, [], [], [], [], m.epoch, 0⟩ tq (.slice none 0 0) (.slice none 0 0) (.slice none 0 0) (.slice none 0 0) from hr0); clear hr0; have d0 := (hbX.cell (p := ⟨p, 0, none⟩) hp).trans c0; have d1 := (hbX.cell (p := ⟨p, 1, none⟩) hp).trans c1; have d2 := (hbX.cell (p := ⟨p, 2, none⟩) hp).trans c2; have d3 := (hbX.cell (p := ⟨p, 3, none⟩) hp).trans c3; have d4 := (hbX.cell (p := ⟨p, 4, none⟩) hp).trans c4; have d5 := (hbX.cell (p := ⟨p, 5, none⟩) hp).trans c5; have d6 := (hbX.cell (p := ⟨p, 6, none⟩) hp).trans c6; have d12 := (hbX.cell (p := ⟨p, 12, none⟩) hp).trans r12))
  have HQ := hide (unhide HRX0).base
  obtain ⟨m7, m8, m9, m10, m11, m12, m13⟩ := ((unhide HM).later hbX).rest
  obtain ⟨r7, r8, r9, r10, r11, r12', r13⟩ := (unhide HRX0).rest
  have rf : ∀ j, X0.frozen? ⟨q, j, none⟩ = false := fun j => rfree (unhide HRX0).head j
  have hne : ¬ p = q := by have := unhide HQ; omega
  have hne2 : ¬ q = p := fun h => hne h.symm
  clear c0 c1 c2 c3 c4 c5 c6 d0 d1 d2 d3 d4 d5 d6 d12 r8 r9 r10 r11 r12 r12' m8 m9 m10 m11 m12
  go_wp2_with fail
  have HRX1 := hide (((unhide HRX0).setNow m.now).putPicks m.picks)
  have HWX1 := hide ((hbX.setCell (p := ⟨q, 7, none⟩) (unhide HQ) (.int .i64 m.now)).setCell (p := ⟨q, 13, none⟩) (unhide HQ) (.int .i64 m.picks))
  generalize ((X0.setCell ⟨q, 7, none⟩ (.int .i64 m.now)).setCell ⟨q, 13, none⟩ (.int .i64 m.picks)) = X1 at *
  clear hbX m7 m13 r7 r13 rf
  obtain ⟨r7, r8, r9, r10, r11, r12, r13⟩ := (unhide HRX1).rest
  obtain ⟨m7, m8, m9, m10, m11, m12, m13⟩ := ((unhide HM).later (unhide HWX1)).rest
  have hqx := (unhide HRX1).lt
  have hpx := ((unhide HM).later (unhide HWX1)).lt
  have HSRC := hide (((unhide HM).later (unhide HWX1).drew).nrow)
  have h63 : m.nums.length ≤ maxLen := by simp only [maxLen]; omega
  have hby : m.nums.length * 24 ≤ 140737488355328 := by omega
  clear r7 r9 r10 r11 r12 r13 m7 m9 m10 m11 m12 m13
  go_wp2_with fail
  rename_i K1 aK1
  have cont1 : ∀ (a1 : Option Addr) (c1 : Nat) (Y1 : World), Hid (RefAt w.heap.size Y1 q { (⟨m.c, 0, [], [], [], [], m.epoch, 0⟩ : RM) with now := m.now, picks := m.picks } tq (.slice none 0 0) (.slice none 0 0) (.slice none 0 0) (.slice none 0 0)) → Hid (Y1.ownsRow w.heap.size 155 3 (.slice a1 m.nums.length c1) m.nums.length (m.nums.flatMap nmV)) → Hid (Below w.heap.size w Y1) → K1 { tmps := #[.pointer (some ⟨p, 0, none⟩), undef, .pointer none, .pointer (some ⟨q, 0, none⟩), .pointer (some ⟨p, 0, none⟩), .pointer (some ⟨p, 0, none⟩), .pointer (some ⟨p, 0, none⟩), .agg #[.int .i64 m.c.s, .int .i64 m.c.le, .int .i64 m.c.la, .int .i64 m.c.wi, .int .i64 m.c.ke, .int .i64 m.c.qu, .slice a m.c.n cap], .pointer (some ⟨p, 0, none⟩), .pointer (some ⟨p, 0, none⟩), .pointer (some ⟨p, 12, none⟩), .int .i64 m.epoch, .pointer (some ⟨q, 0, none⟩), .pointer (some ⟨q, 0, none⟩), .pointer (some ⟨p, 0, none⟩), .pointer (some ⟨p, 0, none⟩), .pointer (some ⟨p, 7, none⟩), .int .i64 m.now, .pointer (some ⟨q, 0, none⟩), .pointer (some ⟨q, 7, none⟩), .pointer (some ⟨q, 0, none⟩), .pointer (some ⟨p, 0, none⟩), .pointer (some ⟨p, 0, none⟩), .pointer (some ⟨p, 13, none⟩), .int .i64 m.picks, .pointer (some ⟨q, 0, none⟩), .pointer (some ⟨q, 13, none⟩), .pointer (some ⟨q, 0, none⟩), .pointer (some ⟨q, 0, none⟩), .pointer (some ⟨q, 0, none⟩), .pointer (some ⟨q, 8, none⟩), .slice none 0 0, .pointer (some ⟨p, 0, none⟩), .pointer (some ⟨p, 0, none⟩), .pointer (some ⟨p, 8, none⟩), nv, .slice a1 m.nums.length c1, .pointer (some ⟨q, 0, none⟩), .pointer (some ⟨q, 8, none⟩), undef, undef, undef, undef, undef, undef, undef, undef, undef, undef, undef, undef, undef, undef, undef, undef, undef, undef, undef, undef, undef, undef, undef, undef, undef, undef, undef, undef, undef, undef, undef, undef, undef, undef, undef, undef, undef], defers := [] } (Y1.setCell ⟨q, 8, none⟩ (.slice a1 m.nums.length c1)) := by
    intro a1 c1 Y1 HR1 HO1 HW1
    refine aK1 _ _ ?_
    clear aK1 hqx hpx HSRC h63 hby r8 m8
    have HRX2 := hide ((unhide HR1).putNums (unhide HO1))
    have HWX2 := hide ((unhide HW1).setCell (p := ⟨q, 8, none⟩) (unhide HQ) (.slice a1 m.nums.length c1))
    generalize (Y1.setCell ⟨q, 8, none⟩ (.slice a1 m.nums.length c1)) = X2 at *
    obtain ⟨r7, r8, r9, r10, r11, r12, r13⟩ := (unhide HRX2).rest
    obtain ⟨m7, m8, m9, m10, m11, m12, m13⟩ := ((unhide HM).later (unhide HWX2)).rest
    have hqx := (unhide HRX2).lt
    have hpx := ((unhide HM).later (unhide HWX2)).lt
    have HSRC := hide (((unhide HM).later (unhide HWX2).drew).prow)
    have h63 : m.pub.length ≤ maxLen := by simp only [maxLen]; omega
    have hby : m.pub.length * 24 ≤ 140737488355328 := by omega
    clear r7 r8 r10 r11 r12 r13 m7 m8 m10 m11 m12 m13
    go_wp2_with fail
    rename_i K2 aK2
    have cont2 : ∀ (a2 : Option Addr) (c2 : Nat) (Y2 : World), Hid (RefAt w.heap.size Y2 q { (⟨m.c, 0, [], [], [], [], m.epoch, 0⟩ : RM) with now := m.now, picks := m.picks, nums := m.nums } tq (.slice a1 m.nums.length c1) (.slice none 0 0) (.slice none 0 0) (.slice none 0 0)) → Hid (Y2.ownsRow w.heap.size 126 3 (.slice a2 m.pub.length c2) m.pub.length (m.pub.flatMap sgV)) → Hid (Below w.heap.size w Y2) → K2 { tmps := #[.pointer (some ⟨p, 0, none⟩), undef, .pointer none, .pointer (some ⟨q, 0, none⟩), .pointer (some ⟨p, 0, none⟩), .pointer (some ⟨p, 0, none⟩), .pointer (some ⟨p, 0, none⟩), .agg #[.int .i64 m.c.s, .int .i64 m.c.le, .int .i64 m.c.la, .int .i64 m.c.wi, .int .i64 m.c.ke, .int .i64 m.c.qu, .slice a m.c.n cap], .pointer (some ⟨p, 0, none⟩), .pointer (some ⟨p, 0, none⟩), .pointer (some ⟨p, 12, none⟩), .int .i64 m.epoch, .pointer (some ⟨q, 0, none⟩), .pointer (some ⟨q, 0, none⟩), .pointer (some ⟨p, 0, none⟩), .pointer (some ⟨p, 0, none⟩), .pointer (some ⟨p, 7, none⟩), .int .i64 m.now, .pointer (some ⟨q, 0, none⟩), .pointer (some ⟨q, 7, none⟩), .pointer (some ⟨q, 0, none⟩), .pointer (some ⟨p, 0, none⟩), .pointer (some ⟨p, 0, none⟩), .pointer (some ⟨p, 13, none⟩), .int .i64 m.picks, .pointer (some ⟨q, 0, none⟩), .pointer (some ⟨q, 13, none⟩), .pointer (some ⟨q, 0, none⟩), .pointer (some ⟨q, 0, none⟩), .pointer (some ⟨q, 0, none⟩), .pointer (some ⟨q, 8, none⟩), .slice none 0 0, .pointer (some ⟨p, 0, none⟩), .pointer (some ⟨p, 0, none⟩), .pointer (some ⟨p, 8, none⟩), nv, .slice a1 m.nums.length c1, .pointer (some ⟨q, 0, none⟩), .pointer (some ⟨q, 8, none⟩), .pointer (some ⟨q, 0, none⟩), .pointer (some ⟨q, 0, none⟩), .pointer (some ⟨q, 0, none⟩), .pointer (some ⟨q, 9, none⟩), .slice none 0 0, .pointer (some ⟨p, 0, none⟩), .pointer (some ⟨p, 0, none⟩), .pointer (some ⟨p, 9, none⟩), pv, .slice a2 m.pub.length c2, .pointer (some ⟨q, 0, none⟩), .pointer (some ⟨q, 9, none⟩), undef, undef, undef, undef, undef, undef, undef, undef, undef, undef, undef, undef, undef, undef, undef, undef, undef, undef, undef, undef, undef, undef, undef, undef, undef], defers := [] } (Y2.setCell ⟨q, 9, none⟩ (.slice a2 m.pub.length c2)) := by
      intro a2 c2 Y2 HR2 HO2 HW2
      refine aK2 _ _ ?_
      clear aK2 hqx hpx HSRC h63 hby r9 m9
      have HRX3 := hide ((unhide HR2).putPub (unhide HO2))
      have HWX3 := hide ((unhide HW2).setCell (p := ⟨q, 9, none⟩) (unhide HQ) (.slice a2 m.pub.length c2))
      generalize (Y2.setCell ⟨q, 9, none⟩ (.slice a2 m.pub.length c2)) = X3 at *
      obtain ⟨r7, r8, r9, r10, r11, r12, r13⟩ := (unhide HRX3).rest
      obtain ⟨m7, m8, m9, m10, m11, m12, m13⟩ := ((unhide HM).later (unhide HWX3)).rest
      have hqx := (unhide HRX3).lt
      have hpx := ((unhide HM).later (unhide HWX3)).lt
      have HSRC := hide (((unhide HM).later (unhide HWX3).drew).grow)
      have h63 : m.gone.length ≤ maxLen := by simp only [maxLen]; omega
      have hby : m.gone.length * 24 ≤ 140737488355328 := by omega
      clear r7 r8 r9 r11 r12 r13 m7 m8 m9 m11 m12 m13
      go_wp2_with fail
      rename_i K3 aK3
      have cont3 : ∀ (a3 : Option Addr) (c3 : Nat) (Y3 : World), Hid (RefAt w.heap.size Y3 q { (⟨m.c, 0, [], [], [], [], m.epoch, 0⟩ : RM) with now := m.now, picks := m.picks, nums := m.nums, pub := m.pub } tq (.slice a1 m.nums.length c1) (.slice a2 m.pub.length c2) (.slice none 0 0) (.slice none 0 0)) → Hid (Y3.ownsRow w.heap.size 126 3 (.slice a3 m.gone.length c3) m.gone.length (m.gone.flatMap sgV)) → Hid (Below w.heap.size w Y3) → K3 { tmps := #[.pointer (some ⟨p, 0, none⟩), undef, .pointer none, .pointer (some ⟨q, 0, none⟩), .pointer (some ⟨p, 0, none⟩), .pointer (some ⟨p, 0, none⟩), .pointer (some ⟨p, 0, none⟩), .agg #[.int .i64 m.c.s, .int .i64 m.c.le, .int .i64 m.c.la, .int .i64 m.c.wi, .int .i64 m.c.ke, .int .i64 m.c.qu, .slice a m.c.n cap], .pointer (some ⟨p, 0, none⟩), .pointer (some ⟨p, 0, none⟩), .pointer (some ⟨p, 12, none⟩), .int .i64 m.epoch, .pointer (some ⟨q, 0, none⟩), .pointer (some ⟨q, 0, none⟩), .pointer (some ⟨p, 0, none⟩), .pointer (some ⟨p, 0, none⟩), .pointer (some ⟨p, 7, none⟩), .int .i64 m.now, .pointer (some ⟨q, 0, none⟩), .pointer (some ⟨q, 7, none⟩), .pointer (some ⟨q, 0, none⟩), .pointer (some ⟨p, 0, none⟩), .pointer (some ⟨p, 0, none⟩), .pointer (some ⟨p, 13, none⟩), .int .i64 m.picks, .pointer (some ⟨q, 0, none⟩), .pointer (some ⟨q, 13, none⟩), .pointer (some ⟨q, 0, none⟩), .pointer (some ⟨q, 0, none⟩), .pointer (some ⟨q, 0, none⟩), .pointer (some ⟨q, 8, none⟩), .slice none 0 0, .pointer (some ⟨p, 0, none⟩), .pointer (some ⟨p, 0, none⟩), .pointer (some ⟨p, 8, none⟩), nv, .slice a1 m.nums.length c1, .pointer (some ⟨q, 0, none⟩), .pointer (some ⟨q, 8, none⟩), .pointer (some ⟨q, 0, none⟩), .pointer (some ⟨q, 0, none⟩), .pointer (some ⟨q, 0, none⟩), .pointer (some ⟨q, 9, none⟩), .slice none 0 0, .pointer (some ⟨p, 0, none⟩), .pointer (some ⟨p, 0, none⟩), .pointer (some ⟨p, 9, none⟩), pv, .slice a2 m.pub.length c2, .pointer (some ⟨q, 0, none⟩), .pointer (some ⟨q, 9, none⟩), .pointer (some ⟨q, 0, none⟩), .pointer (some ⟨q, 0, none⟩), .pointer (some ⟨q, 0, none⟩), .pointer (some ⟨q, 10, none⟩), .slice none 0 0, .pointer (some ⟨p, 0, none⟩), .pointer (some ⟨p, 0, none⟩), .pointer (some ⟨p, 10, none⟩), gv, .slice a3 m.gone.length c3, .pointer (some ⟨q, 0, none⟩), .pointer (some ⟨q, 10, none⟩), undef, undef, undef, undef, undef, undef, undef, undef, undef, undef, undef, undef, undef], defers := [] } (Y3.setCell ⟨q, 10, none⟩ (.slice a3 m.gone.length c3)) := by
        intro a3 c3 Y3 HR3 HO3 HW3
        refine aK3 _ _ ?_
        clear aK3 hqx hpx HSRC h63 hby r10 m10
        have HRX4 := hide ((unhide HR3).putGone (unhide HO3))
        have HWX4 := hide ((unhide HW3).setCell (p := ⟨q, 10, none⟩) (unhide HQ) (.slice a3 m.gone.length c3))
        generalize (Y3.setCell ⟨q, 10, none⟩ (.slice a3 m.gone.length c3)) = X4 at *
        obtain ⟨r7, r8, r9, r10, r11, r12, r13⟩ := (unhide HRX4).rest
        obtain ⟨m7, m8, m9, m10, m11, m12, m13⟩ := ((unhide HM).later (unhide HWX4)).rest
        have hqx := (unhide HRX4).lt
        have hpx := ((unhide HM).later (unhide HWX4)).lt
        have HSRC := hide (((unhide HM).later (unhide HWX4).drew).krow)
        have h63 : m.tasks.length ≤ maxLen := by simp only [maxLen]; omega
        have hby : m.tasks.length * 88 ≤ 140737488355328 := by omega
        clear r7 r8 r9 r10 r12 r13 m7 m8 m9 m10 m12 m13
        go_wp2_with fail
        rename_i K4 aK4
        have cont4 : ∀ (a4 : Option Addr) (c4 : Nat) (Y4 : World), Hid (RefAt w.heap.size Y4 q { (⟨m.c, 0, [], [], [], [], m.epoch, 0⟩ : RM) with now := m.now, picks := m.picks, nums := m.nums, pub := m.pub, gone := m.gone } tq (.slice a1 m.nums.length c1) (.slice a2 m.pub.length c2) (.slice a3 m.gone.length c3) (.slice none 0 0)) → Hid (Y4.ownsRow w.heap.size 133 11 (.slice a4 m.tasks.length c4) m.tasks.length (m.tasks.flatMap tkV)) → Hid (Below w.heap.size w Y4) → K4 { tmps := #[.pointer (some ⟨p, 0, none⟩), undef, .pointer none, .pointer (some ⟨q, 0, none⟩), .pointer (some ⟨p, 0, none⟩), .pointer (some ⟨p, 0, none⟩), .pointer (some ⟨p, 0, none⟩), .agg #[.int .i64 m.c.s, .int .i64 m.c.le, .int .i64 m.c.la, .int .i64 m.c.wi, .int .i64 m.c.ke, .int .i64 m.c.qu, .slice a m.c.n cap], .pointer (some ⟨p, 0, none⟩), .pointer (some ⟨p, 0, none⟩), .pointer (some ⟨p, 12, none⟩), .int .i64 m.epoch, .pointer (some ⟨q, 0, none⟩), .pointer (some ⟨q, 0, none⟩), .pointer (some ⟨p, 0, none⟩), .pointer (some ⟨p, 0, none⟩), .pointer (some ⟨p, 7, none⟩), .int .i64 m.now, .pointer (some ⟨q, 0, none⟩), .pointer (some ⟨q, 7, none⟩), .pointer (some ⟨q, 0, none⟩), .pointer (some ⟨p, 0, none⟩), .pointer (some ⟨p, 0, none⟩), .pointer (some ⟨p, 13, none⟩), .int .i64 m.picks, .pointer (some ⟨q, 0, none⟩), .pointer (some ⟨q, 13, none⟩), .pointer (some ⟨q, 0, none⟩), .pointer (some ⟨q, 0, none⟩), .pointer (some ⟨q, 0, none⟩), .pointer (some ⟨q, 8, none⟩), .slice none 0 0, .pointer (some ⟨p, 0, none⟩), .pointer (some ⟨p, 0, none⟩), .pointer (some ⟨p, 8, none⟩), nv, .slice a1 m.nums.length c1, .pointer (some ⟨q, 0, none⟩), .pointer (some ⟨q, 8, none⟩), .pointer (some ⟨q, 0, none⟩), .pointer (some ⟨q, 0, none⟩), .pointer (some ⟨q, 0, none⟩), .pointer (some ⟨q, 9, none⟩), .slice none 0 0, .pointer (some ⟨p, 0, none⟩), .pointer (some ⟨p, 0, none⟩), .pointer (some ⟨p, 9, none⟩), pv, .slice a2 m.pub.length c2, .pointer (some ⟨q, 0, none⟩), .pointer (some ⟨q, 9, none⟩), .pointer (some ⟨q, 0, none⟩), .pointer (some ⟨q, 0, none⟩), .pointer (some ⟨q, 0, none⟩), .pointer (some ⟨q, 10, none⟩), .slice none 0 0, .pointer (some ⟨p, 0, none⟩), .pointer (some ⟨p, 0, none⟩), .pointer (some ⟨p, 10, none⟩), gv, .slice a3 m.gone.length c3, .pointer (some ⟨q, 0, none⟩), .pointer (some ⟨q, 10, none⟩), .pointer (some ⟨q, 0, none⟩), .pointer (some ⟨q, 0, none⟩), .pointer (some ⟨q, 0, none⟩), .pointer (some ⟨q, 11, none⟩), .slice none 0 0, .pointer (some ⟨p, 0, none⟩), .pointer (some ⟨p, 0, none⟩), .pointer (some ⟨p, 11, none⟩), kv, .slice a4 m.tasks.length c4, .pointer (some ⟨q, 0, none⟩), .pointer (some ⟨q, 11, none⟩), undef], defers := [] } (Y4.setCell ⟨q, 11, none⟩ (.slice a4 m.tasks.length c4)) := by
          intro a4 c4 Y4 HR4 HO4 HW4
          refine aK4 _ _ ?_
          clear aK4 hqx hpx HSRC h63 hby r11 m11
          have HRX5 := hide ((unhide HR4).setTasks (unhide HO4))
          have HWX5 := hide ((unhide HW4).setCell (p := ⟨q, 11, none⟩) (unhide HQ) (.slice a4 m.tasks.length c4))
          generalize (Y4.setCell ⟨q, 11, none⟩ (.slice a4 m.tasks.length c4)) = X5 at *
          go_wp2_with fail
          go_ret
          exact ⟨q, rfl, ⟨_, _, _, _, _, unhide HRX5⟩, unhide HWX5⟩
        clear aK4
        go_region_law (refine step_append_copy rfl (.tmp 67) (.tmp 71) 81 rfl 133 _ 11 88 Tryz.underlying81 Tryz.infoTask rfl (by decide) B kv m.tasks.length (m.tasks.flatMap tkV) (by simp [Act.eval]) (by simp [Act.eval]) (unhide HSRC) (flat_one tkV_one _) h63 hby ?_; intro a4 c4 Y4 ho4 hb40; have hb4 : Below X4.heap.size X4 Y4 := ⟨hb40.os, hb40.tape, hb40.output, hb40.size, hb40.block⟩; clear hb40; have HR4 := hide ((unhide HRX4).later hb4); have HO4 := hide (owns_base2 (base' := w.heap.size) ho4 (unhide HWX4).size); have HW4 := hide ((unhide HWX4).trans (hb4.mono (unhide HWX4).size)); clear ho4; have rf : ∀ j, Y4.frozen? ⟨q, j, none⟩ = false := (fun j => rfree (unhide HR4).head j); have yq := (hb4.cell (p := ⟨q, 11, none⟩) hqx).trans r11; have yp := (hb4.cell (p := ⟨p, 11, none⟩) hpx).trans m11; clear hb4)
        all_goals exact cont4 _ _ _ HR4 HO4 HW4
      clear aK3
      go_region_law (refine step_append_copy rfl (.tmp 55) (.tmp 59) 80 rfl 126 _ 3 24 Tryz.underlying80 Tryz.infoSegment rfl (by decide) B gv m.gone.length (m.gone.flatMap sgV) (by simp [Act.eval]) (by simp [Act.eval]) (unhide HSRC) (flat_one sgV_one _) h63 hby ?_; intro a3 c3 Y3 ho3 hb30; have hb3 : Below X3.heap.size X3 Y3 := ⟨hb30.os, hb30.tape, hb30.output, hb30.size, hb30.block⟩; clear hb30; have HR3 := hide ((unhide HRX3).later hb3); have HO3 := hide (owns_base2 (base' := w.heap.size) ho3 (unhide HWX3).size); have HW3 := hide ((unhide HWX3).trans (hb3.mono (unhide HWX3).size)); clear ho3; have rf : ∀ j, Y3.frozen? ⟨q, j, none⟩ = false := (fun j => rfree (unhide HR3).head j); have yq := (hb3.cell (p := ⟨q, 10, none⟩) hqx).trans r10; have yp := (hb3.cell (p := ⟨p, 10, none⟩) hpx).trans m10; clear hb3)
      all_goals exact cont3 _ _ _ HR3 HO3 HW3
    clear aK2
    go_region_law (refine step_append_copy rfl (.tmp 43) (.tmp 47) 80 rfl 126 _ 3 24 Tryz.underlying80 Tryz.infoSegment rfl (by decide) B pv m.pub.length (m.pub.flatMap sgV) (by simp [Act.eval]) (by simp [Act.eval]) (unhide HSRC) (flat_one sgV_one _) h63 hby ?_; intro a2 c2 Y2 ho2 hb20; have hb2 : Below X2.heap.size X2 Y2 := ⟨hb20.os, hb20.tape, hb20.output, hb20.size, hb20.block⟩; clear hb20; have HR2 := hide ((unhide HRX2).later hb2); have HO2 := hide (owns_base2 (base' := w.heap.size) ho2 (unhide HWX2).size); have HW2 := hide ((unhide HWX2).trans (hb2.mono (unhide HWX2).size)); clear ho2; have rf : ∀ j, Y2.frozen? ⟨q, j, none⟩ = false := (fun j => rfree (unhide HR2).head j); have yq := (hb2.cell (p := ⟨q, 9, none⟩) hqx).trans r9; have yp := (hb2.cell (p := ⟨p, 9, none⟩) hpx).trans m9; clear hb2)
    all_goals exact cont2 _ _ _ HR2 HO2 HW2
  clear aK1
  go_region_law (refine step_append_copy rfl (.tmp 31) (.tmp 35) 79 rfl 155 _ 3 24 Tryz.underlying79 Tryz.infoNumber rfl (by decide) B nv m.nums.length (m.nums.flatMap nmV) (by simp [Act.eval]) (by simp [Act.eval]) (unhide HSRC) (flat_one nmV_one _) h63 hby ?_; intro a1 c1 Y1 ho1 hb10; have hb1 : Below X1.heap.size X1 Y1 := ⟨hb10.os, hb10.tape, hb10.output, hb10.size, hb10.block⟩; clear hb10; have HR1 := hide ((unhide HRX1).later hb1); have HO1 := hide (owns_base2 (base' := w.heap.size) ho1 (unhide HWX1).size); have HW1 := hide ((unhide HWX1).trans (hb1.mono (unhide HWX1).size)); clear ho1; have rf : ∀ j, Y1.frozen? ⟨q, j, none⟩ = false := (fun j => rfree (unhide HR1).head j); have yq := (hb1.cell (p := ⟨q, 8, none⟩) hqx).trans r8; have yp := (hb1.cell (p := ⟨p, 8, none⟩) hpx).trans m8; clear hb1)
  all_goals exact cont1 _ _ _ HR1 HO1 HW1
end Go.Proofs.YtgadceofpbfleaaGreat
