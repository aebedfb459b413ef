import Derived.Test.YtgadceofpbfleaaGreatQRef8

/- Walks: on. -/
namespace Go.Proofs.YtgadceofpbfleaaGreat
open Go.RowKit
set_option linter.unusedVariables false

/-- does segment a stand on segment b? -/
def onB (c : Cf) (a b : Sg) : Bool := if a.t = -1 ∨ c.F a.t.toNat ≠ b.t ∨ a.ser ≠ b.ser then false else (b.win * c.width b.t / c.width a.t == a.win)
theorem on_1 {c : Cf} {a b : Sg} (h : a.t = -1) : onB c a b = false := by simp [onB, h]
theorem on_2 {c : Cf} {a b : Sg} (h : c.F a.t.toNat ≠ b.t) : onB c a b = false := by simp [onB, h]
theorem on_3 {c : Cf} {a b : Sg} (h : a.ser ≠ b.ser) : onB c a b = false := by simp [onB, h]
theorem on_4 {c : Cf} {a b : Sg} (h1 : ¬ a.t = -1) (h2 : c.F a.t.toNat = b.t) (h3 : a.ser = b.ser) : onB c a b = (b.win * c.width b.t / c.width a.t == a.win) := by
  unfold onB; rw [if_neg]; rintro (h | h | h)
  · exact h1 h
  · exact h h2
  · exact h h3

set_option maxHeartbeats 4000000 in
theorem on_any {B : Nat} {w : World} {p : Nat} {m : RM} {tv nv pv gv kv : Value} (h : RefAt B w p m tv nv pv gv kv) (hc : m.c.ok) (a b : Sg) (ha1 : -1 ≤ a.t) (ha2 : a.t < m.c.n) (hb1 : -1 ≤ b.t) (hb2 : b.t < m.c.n) (hbw1 : 0 ≤ b.win) (hbw2 : b.win ≤ 100000) :
    Calls Tryz.prog 126 #[.pointer (some ⟨p, 0, none⟩), .agg #[.int .i64 a.t, .int .i64 a.ser, .int .i64 a.win], .agg #[.int .i64 b.t, .int .i64 b.ser, .int .i64 b.win]] w fun e w' => e = .returned (.bool (onB m.c a b)) ∧ Below w.heap.size w w' := by
  obtain ⟨at_, cap, htv⟩ := row_slice h.trow
  subst htv
  have hn4 := hc.n4
  have hp := h.lt
  have hts := TS.of_owns h.trow
  obtain ⟨y0, y1, hbw, yz⟩ := box2 w (.cells #[.int .i64 a.t, .int .i64 a.ser, .int .i64 a.win] 126) (.cells #[.int .i64 b.t, .int .i64 b.ser, .int .i64 b.win] 126)
  have hr := h.later hbw
  have H := hide h
  obtain ⟨c0, c1, c2, c3, c4, c5, c6⟩ := hr.conf
  have hts1 := hts.below hbw
  clear h hr
  go_enter Tryz.func126, Tryz.ntmps126
  go_wp2_with fail
  generalize hW : ((w.alloc (.cells #[.int .i64 a.t, .int .i64 a.ser, .int .i64 a.win] 126)).alloc (.cells #[.int .i64 b.t, .int .i64 b.ser, .int .i64 b.win] 126)) = W at *
  clear hW
  have hp1 : p < W.heap.size := by omega
  have hz0 : w.heap.size < W.heap.size := by omega
  have hz1 : w.heap.size + 1 < W.heap.size := by omega
  have a0 : W.cell? ⟨w.heap.size, 0, none⟩ = some (.int .i64 a.t) := by rw [rcell y0]; rfl
  have a1 : W.cell? ⟨w.heap.size, 1, none⟩ = some (.int .i64 a.ser) := by rw [rcell y0]; rfl
  have a2 : W.cell? ⟨w.heap.size, 2, none⟩ = some (.int .i64 a.win) := by rw [rcell y0]; rfl
  have b0 : W.cell? ⟨w.heap.size + 1, 0, none⟩ = some (.int .i64 b.t) := by rw [rcell y1]; rfl
  have b1 : W.cell? ⟨w.heap.size + 1, 1, none⟩ = some (.int .i64 b.ser) := by rw [rcell y1]; rfl
  have b2 : W.cell? ⟨w.heap.size + 1, 2, none⟩ = some (.int .i64 b.win) := by rw [rcell y1]; rfl
  have YZ := hide yz
  have HBW := hide hbw
  have HTS := hide hts1
  clear y0 y1 yz hbw hts1 hts
  have hne : Nonempty (Later W.heap.size W) := Later.some _ _
  have hlc := fun (u : Later W.heap.size W) b o h => u.cell b o h
  by_cases e1 : a.t = -1
  · have HR := hide (on_1 (c := m.c) (b := b) e1)
    have e1b : (a.t == -1) = true := by simp [e1]
    clear e1
    refine wp_region_later W.heap.size (by kernel_rfl) (by kernel_rfl) ?_
    repeat (go_big_quiet_step (fail))
    refine wpQuiet_nil ?_
    rintro ⟨w1, hb1⟩
    dsimp only
    clear hlc hne
    go_wp2_with fail
    go_ret
    exact ⟨ret_bool (unhide HR).symm, (unhide HBW).trans (hb1.mono (unhide HBW).size)⟩
  · have e1b : (a.t == -1) = false := by simp [e1]
    obtain ⟨i, hi⟩ := Int.eq_ofNat_of_zero_le (show 0 ≤ a.t by omega)
    have hin : i < m.c.n := by omega
    obtain ⟨tb, off, hat, htz, htc⟩ := unhide HTS (by omega)
    subst hat
    obtain ⟨t1, t2, t3⟩ := htc i hin
    clear htc t2 t3
    have hFi : m.c.F a.t.toNat = m.c.F i := by rw [hi]; simp
    have hai : a.t = i := hi
    have hil : (i : Int) < m.c.n := by omega
    rw [hai] at a0 e1b
    by_cases e2 : m.c.F i = b.t
    · have e2b : (m.c.F i != b.t) = false := by simp [e2]
      by_cases e3 : a.ser = b.ser
      · have e3b : (a.ser != b.ser) = false := by simp [e3]
        obtain ⟨wa1, wa2⟩ := hc.width ha1 ha2
        obtain ⟨wb1, wb2⟩ := hc.width hb1 hb2
        have HR := hide (on_4 (c := m.c) e1 (by rw [hFi]; exact e2) e3)
        have hm1 : 0 ≤ b.win * m.c.width b.t := Int.mul_nonneg hbw1 (by omega)
        have hm2 : b.win * m.c.width b.t ≤ 100000 * 1000 := Int.mul_le_mul hbw2 wb2 (by omega) (by omega)
        have HWA := hide (show widthOf m.c.wi m.c.W a.t = m.c.width a.t from rfl)
        have HWB := hide (show widthOf m.c.wi m.c.W b.t = m.c.width b.t from rfl)
        have HWI := hide (show ∀ (u : World), Below W.heap.size W u → Calls Tryz.prog 27 #[.agg #[.int .i64 m.c.s, .int .i64 m.c.le, .int .i64 m.c.la, .int .i64 m.c.wi, .int .i64 m.c.ke, .int .i64 m.c.qu, .slice (some ⟨tb, off, none⟩) m.c.n cap], .int .i64 b.t] u fun e w' => e = .returned (.int .i64 (m.c.width b.t)) ∧ Below u.heap.size u w' from fun u hu => Width_any _ _ _ _ _ _ _ _ cap m.c.F m.c.W m.c.K b.t hb1 hb2 hn4 u ((unhide HTS).below hu))
        have HWJ := hide (show ∀ (u : World), Below W.heap.size W u → Calls Tryz.prog 27 #[.agg #[.int .i64 m.c.s, .int .i64 m.c.le, .int .i64 m.c.la, .int .i64 m.c.wi, .int .i64 m.c.ke, .int .i64 m.c.qu, .slice (some ⟨tb, off, none⟩) m.c.n cap], .int .i64 i] u fun e w' => e = .returned (.int .i64 (m.c.width a.t)) ∧ Below u.heap.size u w' from fun u hu => by rw [← hai]; exact Width_any _ _ _ _ _ _ _ _ cap m.c.F m.c.W m.c.K a.t ha1 ha2 hn4 u ((unhide HTS).below hu))
        clear e1 e2 e3 hFi hi hai
        refine wp_region_later W.heap.size (by kernel_rfl) (by kernel_rfl) ?_
        repeat (go_big_quiet_step (fail))
        refine wpQuiet_nil ?_
        rintro ⟨w1, hb1⟩
        dsimp only
        clear hlc hne
        have HB1 := hide hb1
        have k0 := (hb1.cell (p := ⟨p, 0, none⟩) hp1).trans c0
        have k1 := (hb1.cell (p := ⟨p, 1, none⟩) hp1).trans c1
        have k2 := (hb1.cell (p := ⟨p, 2, none⟩) hp1).trans c2
        have k3 := (hb1.cell (p := ⟨p, 3, none⟩) hp1).trans c3
        have k4 := (hb1.cell (p := ⟨p, 4, none⟩) hp1).trans c4
        have k5 := (hb1.cell (p := ⟨p, 5, none⟩) hp1).trans c5
        have k6 := (hb1.cell (p := ⟨p, 6, none⟩) hp1).trans c6
        have k7 := (hb1.cell (p := ⟨w.heap.size + 1, 0, none⟩) hz1).trans b0
        have l1 := hb1.size
        have hpw1 : p < w1.heap.size := by omega
        have hzw1 : w.heap.size + 1 < w1.heap.size := by omega
        have hne : Nonempty (Later w1.heap.size w1) := Later.some _ _
        have hlc := fun (u : Later w1.heap.size w1) b o h => u.cell b o h
        go_wp2_with fail
        refine wp_region_later w1.heap.size (by kernel_rfl) (by kernel_rfl) ?_
        repeat (go_big_quiet_step (first | (go_at_call 27; exact Calls.later (Nat.le_refl _) (unhide HWI _ ((unhide HB1).trans (Below.mono (Subtype.property _) (unhide HB1).size))))))
        refine wpQuiet_nil ?_
        rintro ⟨w2, hb2⟩
        dsimp only
        clear hlc hne k7 hb1
        have HB2 := hide ((unhide HB1).trans (hb2.mono (unhide HB1).size))
        have j0 := ((unhide HB2).cell (p := ⟨p, 0, none⟩) hp1).trans c0
        have j1 := ((unhide HB2).cell (p := ⟨p, 1, none⟩) hp1).trans c1
        have j2 := ((unhide HB2).cell (p := ⟨p, 2, none⟩) hp1).trans c2
        have j3 := ((unhide HB2).cell (p := ⟨p, 3, none⟩) hp1).trans c3
        have j4 := ((unhide HB2).cell (p := ⟨p, 4, none⟩) hp1).trans c4
        have j5 := ((unhide HB2).cell (p := ⟨p, 5, none⟩) hp1).trans c5
        have j6 := ((unhide HB2).cell (p := ⟨p, 6, none⟩) hp1).trans c6
        have j7 := ((unhide HB2).cell (p := ⟨w.heap.size, 0, none⟩) hz0).trans a0
        have l2 := (unhide HB2).size
        have hpw2 : p < w2.heap.size := by omega
        have hzw2 : w.heap.size < w2.heap.size := by omega
        have hne : Nonempty (Later w2.heap.size w2) := Later.some _ _
        have hlc := fun (u : Later w2.heap.size w2) b o h => u.cell b o h
        clear hb2
        go_wp2_with fail
        refine wp_region_later w2.heap.size (by kernel_rfl) (by kernel_rfl) ?_
        repeat (go_big_quiet_step (first | (go_at_call 27; exact Calls.later (Nat.le_refl _) (unhide HWJ _ ((unhide HB2).trans (Below.mono (Subtype.property _) (unhide HB2).size))))))
        refine wpQuiet_nil ?_
        rintro ⟨w3, hb3⟩
        dsimp only
        clear hlc hne j7
        have HB3 := hide ((unhide HB2).trans (hb3.mono (unhide HB2).size))
        have m0 := ((unhide HB3).cell (p := ⟨w.heap.size, 2, none⟩) hz0).trans a2
        have m1 := ((unhide HB3).cell (p := ⟨w.heap.size + 1, 2, none⟩) hz1).trans b2
        have l3 := (unhide HB3).size
        have hzw3 : w.heap.size < w3.heap.size := by omega
        have hyw3 : w.heap.size + 1 < w3.heap.size := by omega
        have hne : Nonempty (Later w3.heap.size w3) := Later.some _ _
        have hlc := fun (u : Later w3.heap.size w3) b o h => u.cell b o h
        go_wp2_with fail
        refine wp_region_later w3.heap.size (by kernel_rfl) (by kernel_rfl) ?_
        repeat (go_big_quiet_step (fail))
        refine wpQuiet_nil ?_
        rintro ⟨w4, hb4⟩
        dsimp only
        clear hlc hne
        go_wp2_with fail
        go_ret
        exact ⟨ret_bool (unhide HR).symm, (unhide HBW).trans (((unhide HB3).trans (hb4.mono (unhide HB3).size)).mono (unhide HBW).size)⟩
      · have HR := hide (on_3 (c := m.c) e3)
        have e3b : (a.ser != b.ser) = true := by simp [e3]
        clear e1 e2 e3 hFi hi hai
        refine wp_region_later W.heap.size (by kernel_rfl) (by kernel_rfl) ?_
        repeat (go_big_quiet_step (fail))
        refine wpQuiet_nil ?_
        rintro ⟨w1, hb1⟩
        dsimp only
        clear hlc hne
        go_wp2_with fail
        go_ret
        exact ⟨ret_bool (unhide HR).symm, (unhide HBW).trans (hb1.mono (unhide HBW).size)⟩
    · have HR := hide (on_2 (c := m.c) (a := a) (b := b) (by rw [hFi]; exact e2))
      have e2b : (m.c.F i != b.t) = true := by simp [e2]
      clear e1 e2 hFi hi hai
      refine wp_region_later W.heap.size (by kernel_rfl) (by kernel_rfl) ?_
      repeat (go_big_quiet_step (fail))
      refine wpQuiet_nil ?_
      rintro ⟨w1, hb1⟩
      dsimp only
      clear hlc hne
      go_wp2_with fail
      go_ret
      exact ⟨ret_bool (unhide HR).symm, (unhide HBW).trans (hb1.mono (unhide HBW).size)⟩
end Go.Proofs.YtgadceofpbfleaaGreat

/- Walks: less, with. -/
namespace Go.Proofs.YtgadceofpbfleaaGreat
open Go.RowKit
set_option linter.unusedVariables false

section
variable {α : Type} (lt : α → α → Bool)
def insBy (x : α) : List α → List α
  | [] => [x]
  | y :: r => if lt x y then x :: y :: r else y :: insBy x r
def anyBy (x : α) (l : List α) : Bool := l.any (fun y => lt x y)
def partBy (x : α) (l : List α) : List α := if anyBy lt x l then insBy lt x l else l
theorem insBy_none {x : α} : ∀ {l : List α}, anyBy lt x l = false → insBy lt x l = l ++ [x]
  | [], _ => rfl
  | y :: l, h => by
    simp only [anyBy, List.any_cons, Bool.or_eq_false_iff] at h
    simp [insBy, h.1, insBy_none (l := l) h.2]
theorem insBy_snoc {x : α} : ∀ {l : List α} {y : α}, anyBy lt x l = true → insBy lt x (l ++ [y]) = insBy lt x l ++ [y]
  | [], y, h => by simp [anyBy] at h
  | z :: l, y, h => by
    rw [List.cons_append, insBy, insBy]
    by_cases e : lt x z = true
    · simp [e]
    · have e' : lt x z = false := by simpa using e
      rw [e']
      simp only [Bool.false_eq_true, if_false, List.cons_append]
      rw [insBy_snoc (l := l) (y := y) (by simpa [anyBy, e'] using h)]
theorem insBy_new {x : α} : ∀ {l : List α} {y : α}, anyBy lt x l = false → lt x y = true → insBy lt x (l ++ [y]) = l ++ [x] ++ [y]
  | [], y, _, hy => by simp [insBy, hy]
  | z :: l, y, h, hy => by
    simp only [anyBy, List.any_cons, Bool.or_eq_false_iff] at h
    simp only [List.cons_append, insBy, h.1, Bool.false_eq_true, if_false]
    rw [insBy_new (l := l) (y := y) h.2 hy]
theorem anyBy_snoc (x : α) (l : List α) (y : α) : anyBy lt x (l ++ [y]) = (anyBy lt x l || lt x y) := by simp [anyBy]
theorem partBy_in {x y : α} {l : List α} (h : anyBy lt x l = true) : partBy lt x (l ++ [y]) = partBy lt x l ++ [y] ∧ anyBy lt x (l ++ [y]) = true := by
  have h2 : anyBy lt x (l ++ [y]) = true := by rw [anyBy_snoc, h]; rfl
  exact ⟨by simp only [partBy, h, h2, if_true]; exact insBy_snoc lt h, h2⟩
theorem partBy_new {x y : α} {l : List α} (h : anyBy lt x l = false) (hy : lt x y = true) : partBy lt x (l ++ [y]) = partBy lt x l ++ [x] ++ [y] ∧ anyBy lt x (l ++ [y]) = true := by
  have h2 : anyBy lt x (l ++ [y]) = true := by rw [anyBy_snoc, h, hy]; rfl
  exact ⟨by simp only [partBy, h, h2, if_true, Bool.false_eq_true, if_false]; exact insBy_new lt h hy, h2⟩
theorem partBy_old {x y : α} {l : List α} (h : anyBy lt x l = false) (hy : lt x y = false) : partBy lt x (l ++ [y]) = partBy lt x l ++ [y] ∧ anyBy lt x (l ++ [y]) = false := by
  have h2 : anyBy lt x (l ++ [y]) = false := by rw [anyBy_snoc, h, hy]; rfl
  exact ⟨by simp [partBy, h, h2], h2⟩
theorem partBy_len (x : α) (l : List α) : (partBy lt x l).length ≤ l.length + 1 := by
  unfold partBy
  split
  · have : ∀ l : List α, (insBy lt x l).length = l.length + 1 := fun l => by
      induction l with
      | nil => rfl
      | cons y r ih => rw [insBy]; split <;> simp [ih]
    rw [this]; omega
  · omega
end

/-- by kind, tier, series, window. -/
def lessB (a b : Tk) : Bool := if a.kind ≠ b.kind then decide (a.kind < b.kind) else if a.s.t ≠ b.s.t then decide (a.s.t < b.s.t) else if a.s.ser ≠ b.s.ser then decide (a.s.ser < b.s.ser) else decide (a.s.win < b.s.win)
theorem less_1 {a b : Tk} (h : ¬ a.kind = b.kind) : lessB a b = decide (a.kind < b.kind) := by simp [lessB, h]
theorem less_2 {a b : Tk} (h : a.kind = b.kind) (h1 : ¬ a.s.t = b.s.t) : lessB a b = decide (a.s.t < b.s.t) := by simp [lessB, h, h1]
theorem less_3 {a b : Tk} (h : a.kind = b.kind) (h1 : a.s.t = b.s.t) (h2 : ¬ a.s.ser = b.s.ser) : lessB a b = decide (a.s.ser < b.s.ser) := by simp [lessB, h, h1, h2]
theorem less_4 {a b : Tk} (h : a.kind = b.kind) (h1 : a.s.t = b.s.t) (h2 : a.s.ser = b.s.ser) : lessB a b = decide (a.s.win < b.s.win) := by simp [lessB, h, h1, h2]

set_option maxHeartbeats 1000000 in
theorem less_any (a b : Tk) (w : World) :
    Calls Tryz.prog 111 #[.agg (tkV a).toArray, .agg (tkV b).toArray] w fun e w' => e = .returned (.bool (lessB a b)) ∧ Below w.heap.size w w' := by
  have hbw : ∀ o1 o2, Below w.heap.size w ((w.alloc o1).alloc o2) := fun o1 o2 => ((Below.refl _ _).alloc (Nat.le_refl _) _).alloc (by simp) _
  have HBW := hide hbw
  clear hbw
  have HA : (tkV a).toArray = #[.int .i64 a.kind, .int .i64 a.s.t, .int .i64 a.s.ser, .int .i64 a.s.win, .int .i64 a.since, .int .i64 a.tries, .int .i64 a.rest, .int .i64 a.ep, .int .i64 a.num, .int .i64 a.slot, .int .i64 a.till] := rfl
  have HB : (tkV b).toArray = #[.int .i64 b.kind, .int .i64 b.s.t, .int .i64 b.s.ser, .int .i64 b.s.win, .int .i64 b.since, .int .i64 b.tries, .int .i64 b.rest, .int .i64 b.ep, .int .i64 b.num, .int .i64 b.slot, .int .i64 b.till] := rfl
  rw [HA, HB]
  clear HA HB
  by_cases e1 : a.kind = b.kind
  · have b1 : (a.kind != b.kind) = false := by simp [e1]
    by_cases e2 : a.s.t = b.s.t
    · have b2 : (a.s.t != b.s.t) = false := by simp [e2]
      by_cases e3 : a.s.ser = b.s.ser
      · have b3 : (a.s.ser != b.s.ser) = false := by simp [e3]
        have HR := hide (less_4 e1 e2 e3)
        clear e1 e2 e3
        go_enter Tryz.func111, Tryz.ntmps111
        go_wp2_with fail
        go_ret
        exact ⟨ret_bool (unhide HR).symm, unhide HBW _ _⟩
      · have b3 : (a.s.ser != b.s.ser) = true := by simp [e3]
        have HR := hide (less_3 e1 e2 e3)
        clear e1 e2 e3
        go_enter Tryz.func111, Tryz.ntmps111
        go_wp2_with fail
        go_ret
        exact ⟨ret_bool (unhide HR).symm, unhide HBW _ _⟩
    · have b2 : (a.s.t != b.s.t) = true := by simp [e2]
      have HR := hide (less_2 e1 e2)
      clear e1 e2
      go_enter Tryz.func111, Tryz.ntmps111
      go_wp2_with fail
      go_ret
      exact ⟨ret_bool (unhide HR).symm, unhide HBW _ _⟩
  · have b1 : (a.kind != b.kind) = true := by simp [e1]
    have HR := hide (less_1 e1)
    clear e1
    go_enter Tryz.func111, Tryz.ntmps111
    go_wp2_with fail
    go_ret
    exact ⟨ret_bool (unhide HR).symm, unhide HBW _ _⟩
end Go.Proofs.YtgadceofpbfleaaGreat

/- Walks: with. -/
namespace Go.Proofs.YtgadceofpbfleaaGreat
open Go.RowKit
set_option linter.unusedVariables false

theorem Tryz.infoTask : (Tryz.prog.info? 133).map (fun i => (i.zero, i.size, i.bytes)) = some (some (.agg #[.int .i64 0, .int .i64 0, .int .i64 0, .int .i64 0, .int .i64 0, .int .i64 0, .int .i64 0, .int .i64 0, .int .i64 0, .int .i64 0, .int .i64 0]), 11, 88) := by kernel_rfl

def tkObj (f : Tk) : Obj := .cells #[.int .i64 f.kind, .int .i64 f.s.t, .int .i64 f.s.ser, .int .i64 f.s.win, .int .i64 f.since, .int .i64 f.tries, .int .i64 f.rest, .int .i64 f.ep, .int .i64 f.num, .int .i64 f.slot, .int .i64 f.till] 133 (0, 0)

theorem push_tk {w : World} {ops : Array Oper} {rest : List Oper} {o : Oper} {a : Act} {Q : Exit → Act → World → Prop} (hgd : o.guard = none) (s x : Operand)
    (ho : o.op = .call { callee := .builtin .append, args := #[s, x], argTypes := #[81, 81] }) (base : Nat) (v : Value) (l : List Tk) (f : Tk) (hs : a.eval s = v) (hown : w.ownsRow base 133 11 v l.length (l.flatMap tkV))
    (B1 : Nat) (hx : a.eval x = .slice (some ⟨B1, 0, none⟩) 1 1) (hB1 : w.heap[B1]? = some (tkObj f)) (hl : l.length ≤ 1099511627776) (hbase : base ≤ w.heap.size)
    (h : ∀ g cap w', w'.ownsRow base 133 11 (.slice (some ⟨g, 0, none⟩) (l.length + 1) cap) (l ++ [f]).length ((l ++ [f]).flatMap tkV) → w'.ownsRow base 133 11 v l.length (l.flatMap tkV) → w.grownBy w' v.ownBlock → (v.ownBlock = some g ∨ g = w.heap.size) → g < w'.heap.size → wpList Tryz.prog ops Q rest (a.put o.dst (.slice (some ⟨g, 0, none⟩) (l.length + 1) cap)) w') : wpList Tryz.prog ops Q (o :: rest) a w :=
  wpList_append_keep hgd s x 81 ho base 133 _ 11 88 Tryz.underlying81 Tryz.infoTask rfl (by decide) v l.length (l.flatMap tkV) hs hown ⟨B1, 0, none⟩ 1 1 (tkV f) hx rfl
    (World.news_of_block (cs := (tkV f).toArray) hB1) (tkV_one f) (by decide) (by simp only [maxLen]; omega) (by omega) hbase
    fun g cap w' h1 h2 h3 h4 h5 => h g cap w' (flat_row h1) h2 h3 h4 h5

/-- a row of jobs by index. -/
theorem tk_at {w : World} {B : Nat} {e : TypeId} {v : Value} {l : List Tk} (h : w.ownsRow B e 11 v l.length (l.flatMap tkV)) {i : Nat} {x : Tk} (hx : l[i]? = some x) :
    ∃ g cap, v = .slice (some ⟨g, 0, none⟩) l.length cap ∧ B ≤ g ∧ g < w.heap.size ∧ w.cell? ⟨g, i * 11, none⟩ = some (.int .i64 x.kind) ∧ w.cell? ⟨g, i * 11 + 1, none⟩ = some (.int .i64 x.s.t) ∧ w.cell? ⟨g, i * 11 + 2, none⟩ = some (.int .i64 x.s.ser) ∧ w.cell? ⟨g, i * 11 + 3, none⟩ = some (.int .i64 x.s.win) ∧ w.cell? ⟨g, i * 11 + 4, none⟩ = some (.int .i64 x.since) ∧ w.cell? ⟨g, i * 11 + 5, none⟩ = some (.int .i64 x.tries) ∧ w.cell? ⟨g, i * 11 + 6, none⟩ = some (.int .i64 x.rest) ∧ w.cell? ⟨g, i * 11 + 7, none⟩ = some (.int .i64 x.ep) ∧ w.cell? ⟨g, i * 11 + 8, none⟩ = some (.int .i64 x.num) ∧ w.cell? ⟨g, i * 11 + 9, none⟩ = some (.int .i64 x.slot) ∧ w.cell? ⟨g, i * 11 + 10, none⟩ = some (.int .i64 x.till) := by
  have hil : i < l.length := (List.getElem?_eq_some_iff.1 hx).1
  obtain ⟨g, cap, hv, hb, hlt⟩ := h.form (by omega)
  rw [hv] at h
  have e : ∀ j, j < 11 → w.cell? ⟨g, i * 11 + j, none⟩ = (tkV x)[j]? := fun j hj => by
    rw [h.cellAt _ (by omega)]; exact flat_get (f := tkV) tkV_len l i x j hx hj
  exact ⟨g, cap, hv, hb, hlt, e 0 (by omega), e 1 (by omega), e 2 (by omega), e 3 (by omega), e 4 (by omega), e 5 (by omega), e 6 (by omega), e 7 (by omega), e 8 (by omega), e 9 (by omega), e 10 (by omega)⟩

theorem owns_base {w : World} {b b' : Nat} {e : TypeId} {size : Nat} {v : Value} {n : Nat} {xs : List Value} (h : w.ownsRow b e size v n xs) (hb : b' ≤ b) : w.ownsRow b' e size v n xs := by
  refine ⟨h.1, ?_⟩
  rcases h.2 with h2 | ⟨g, cap, cur, rfl, hg, r⟩
  · exact .inl h2
  · exact .inr ⟨g, cap, cur, rfl, Nat.le_trans hb hg, r⟩

theorem tk_take {l : List Tk} {i : Nat} {x : Tk} (h : l[i]? = some x) : l.take (i + 1) = l.take i ++ [x] := by
  obtain ⟨hl, hx⟩ := List.getElem?_eq_some_iff.1 h
  rw [List.take_succ_eq_append_getElem hl, hx]

theorem obj_cells {w : World} {g : Nat} {f : Tk} (h : w.heap[g]? = some (tkObj f)) : w.cell? ⟨g, 0, none⟩ = some (.int .i64 f.kind) ∧ w.cell? ⟨g, 1, none⟩ = some (.int .i64 f.s.t) ∧ w.cell? ⟨g, 2, none⟩ = some (.int .i64 f.s.ser) ∧ w.cell? ⟨g, 3, none⟩ = some (.int .i64 f.s.win) ∧ w.cell? ⟨g, 4, none⟩ = some (.int .i64 f.since) ∧ w.cell? ⟨g, 5, none⟩ = some (.int .i64 f.tries) ∧ w.cell? ⟨g, 6, none⟩ = some (.int .i64 f.rest) ∧ w.cell? ⟨g, 7, none⟩ = some (.int .i64 f.ep) ∧ w.cell? ⟨g, 8, none⟩ = some (.int .i64 f.num) ∧ w.cell? ⟨g, 9, none⟩ = some (.int .i64 f.slot) ∧ w.cell? ⟨g, 10, none⟩ = some (.int .i64 f.till) := by
  refine ⟨?_, ?_, ?_, ?_, ?_, ?_, ?_, ?_, ?_, ?_, ?_⟩ <;> rw [rcell h] <;> rfl

set_option maxHeartbeats 4000000 in
theorem with_any (B : Nat) (l : List Tk) (v : Value) (t : Tk) (w : World) (hl : l.length ≤ 1000000000000) (h : w.ownsRow B 133 11 v l.length (l.flatMap tkV)) :
    Calls Tryz.prog 109 #[v, .agg #[.int .i64 t.kind, .int .i64 t.s.t, .int .i64 t.s.ser, .int .i64 t.s.win, .int .i64 t.since, .int .i64 t.tries, .int .i64 t.rest, .int .i64 t.ep, .int .i64 t.num, .int .i64 t.slot, .int .i64 t.till]] w fun e w' => ∃ v', e = .returned v' ∧ w'.ownsRow w.heap.size 133 11 v' (insBy lessB t l).length ((insBy lessB t l).flatMap tkV) ∧ Below w.heap.size w w' := by
  obtain ⟨a0, cap0, hv⟩ := row_slice h
  subst hv
  have H := hide h
  have hb0 : w.heap.size < (w.alloc (tkObj t)).heap.size := by rw [rsize]; omega
  have hbw : Below w.heap.size w (w.alloc (tkObj t)) := (Below.refl _ _).alloc (Nat.le_refl _) _
  have hbox := rlast w (tkObj t)
  have HBOX := hide hbox
  have HZ := hide (rsize w (tkObj t))
  clear h hbox
  go_enter Tryz.func109, Tryz.ntmps109
  go_wp2_with fail
  have hWW : (w.alloc (tkObj t)) = (w.alloc (.cells #[.int .i64 t.kind, .int .i64 t.s.t, .int .i64 t.s.ser, .int .i64 t.s.win, .int .i64 t.since, .int .i64 t.tries, .int .i64 t.rest, .int .i64 t.ep, .int .i64 t.num, .int .i64 t.slot, .int .i64 t.till] 133)) := rfl
  rw [← hWW]
  clear hWW
  generalize (w.alloc (tkObj t)) = W at *
  go_loopw [5, 6, 7, 8] (fun z b y _ wr => ∃ (i : Nat), i ≤ l.length ∧ y = .int .i64 i ∧ b = .bool (anyBy lessB t (l.take i)) ∧ wr.ownsRow (w.heap.size + 1) 133 11 z (partBy lessB t (l.take i)).length ((partBy lessB t (l.take i)).flatMap tkV) ∧ Below (w.heap.size + 1) W wr) (fun _ _ y _ _ => l.length - (intOf y).toNat)
  case atStart => exact ⟨0, Nat.zero_le _, rfl, rfl, World.ownsRow_nil _ _ _ _, Below.refl _ _⟩
  case round =>
    obtain ⟨i, hi, rfl, rfl, hz, hb⟩ := hrel
    obtain ⟨az, cz, hzv⟩ := row_slice hz
    subst hzv
    have hbr : Below w.heap.size w wr := hbw.trans (hb.mono (by omega))
    have HB := hide hb
    have HBR := hide hbr
    have HZR := hide hz
    have hbx := (hb.block w.heap.size (by omega)).trans (unhide HBOX)
    obtain ⟨t0, t1, t2, t3, t4, t5, t6, t7, t8, t9, t10⟩ := obj_cells hbx
    have HBX := hide hbx
    have hwz : w.heap.size < wr.heap.size := lt_of_heap hbx
    clear hbx hb hbr hz
    by_cases hil : i < l.length
    · obtain ⟨x, hx⟩ := rget_of_lt hil
      obtain ⟨g, cap', hvn, hgb, hgz, x0, x1, x2, x3, x4, x5, x6, x7, x8, x9, x10⟩ := tk_at (row_later (unhide H) (unhide HBR)) hx
      injection hvn with hvn1 hvn2 hvn3
      subst hvn1
      have hgw : g < w.heap.size := by
        obtain ⟨g', c', hv', _, hlt', _⟩ := tk_at (unhide H) hx
        injection hv' with h1
        injection h1 with h1
        injection h1 with h1
        omega
      have htk := tk_take hx
      have hin : (i : Int) < l.length := by omega
      have hne : Nonempty (Later wr.heap.size wr) := Later.some _ _
      have hlc := fun (u : Later wr.heap.size wr) b o h => u.cell b o h
      have hpl := partBy_len lessB t (l.take i)
      rw [List.length_take, Nat.min_eq_left hi] at hpl
      have HLE := hide (fun (u : Later wr.heap.size wr) => less_any t x u.1)
      have HTK := hide htk
      clear hx hvn2 hvn3 htk
      go_wp2_with fail
      refine wp_region_later wr.heap.size (by kernel_rfl) (by kernel_rfl) ?_
      repeat (go_big_quiet_step (first | (go_at_call 111; exact Calls.later (Nat.le_refl _) (unhide HLE _))))
      refine wpQuiet_nil ?_
      rintro ⟨w1, hb1⟩
      dsimp only
      clear hlc hne
      have hb1z := hb1.size
      have FV := hide (row_later (unhide HZR) hb1)
      have FB := hide ((unhide HB).trans (hb1.mono (by omega)))
      have z0 := (hb1.cell (p := ⟨g, i * 11, none⟩) hgz).trans x0
      have z1 := (hb1.cell (p := ⟨g, i * 11 + 1, none⟩) hgz).trans x1
      have z2 := (hb1.cell (p := ⟨g, i * 11 + 2, none⟩) hgz).trans x2
      have z3 := (hb1.cell (p := ⟨g, i * 11 + 3, none⟩) hgz).trans x3
      have z4 := (hb1.cell (p := ⟨g, i * 11 + 4, none⟩) hgz).trans x4
      have z5 := (hb1.cell (p := ⟨g, i * 11 + 5, none⟩) hgz).trans x5
      have z6 := (hb1.cell (p := ⟨g, i * 11 + 6, none⟩) hgz).trans x6
      have z7 := (hb1.cell (p := ⟨g, i * 11 + 7, none⟩) hgz).trans x7
      have z8 := (hb1.cell (p := ⟨g, i * 11 + 8, none⟩) hgz).trans x8
      have z9 := (hb1.cell (p := ⟨g, i * 11 + 9, none⟩) hgz).trans x9
      have z10 := (hb1.cell (p := ⟨g, i * 11 + 10, none⟩) hgz).trans x10
      have hg1 : g < w1.heap.size := by omega
      have hw1 : w.heap.size < w1.heap.size := by omega
      have hbx := (hb1.block _ hwz).trans (unhide HBX)
      obtain ⟨u0, u1, u2, u3, u4, u5, u6, u7, u8, u9, u10⟩ := obj_cells hbx
      have HBX1 := hide hbx
      clear hbx x0 x1 x2 x3 x4 x5 x6 x7 x8 x9 x10 t0 t1 t2 t3 t4 t5 t6 t7 t8 t9 t10
      cases hany : anyBy lessB t (l.take i)
      · cases hle : lessB t x
        · have HP := hide (partBy_old lessB hany hle)
          clear hany hle u0 u1 u2 u3 u4 u5 u6 u7 u8 u9 u10
          generalize partBy lessB t (l.take i) = P at *
          go_wp2_with (first | (at_builtin; refine push_tk rfl _ _ rfl (w.heap.size + 1) _ P x rfl ((unhide FV).alloc _) w1.heap.size rfl (rlast _ (tkObj x)) ?hll ?hbb ?_; (case hll => omega); (case hbb => (rw [rsize]; omega)); intro g2 cap2 w3 hown hold hgrow hat hlt3) | fail)
          have hb3 : Below (w.heap.size + 1) W w3 := ((unhide FB).alloc (by omega) _).grown hgrow (by rw [rsize]; omega) (fun k hk => ((unhide FV).lt k hk).1)
          exact ⟨⟨i + 1, by omega, by go_num, by rw [unhide HTK, (unhide HP).2], by rw [unhide HTK, (unhide HP).1]; exact hown, hb3⟩, by simp [intOf]; omega⟩
        · have HP := hide (partBy_new lessB hany hle)
          clear hany hle
          generalize partBy lessB t (l.take i) = P at *
          go_wp2_with (first
            | (at_builtin; refine push_tk rfl _ _ rfl (w.heap.size + 1) _ P t rfl ((unhide FV).alloc _) w1.heap.size rfl (rlast _ (tkObj t)) ?hll ?hbb ?_; (case hll => omega); (case hbb => (rw [rsize]; omega)); intro g1 cap1 w2 hown1 hold1 hgrow1 hat1 hlt1; have gb : ∀ k, k < w.heap.size + 1 → w2.heap[k]? = w1.heap[k]? := (fun k hk => (hgrow1.block k (by rw [rsize]; omega) (fun e => by have := ((unhide FV).lt k e.symm).1; omega)).trans (Below.heap_alloc _ _ _ (by omega))); have hb2 : Below (w.heap.size + 1) W w2 := (((unhide FB).alloc (by omega) _).grown hgrow1 (by rw [rsize]; omega) (fun k hk => ((unhide FV).lt k hk).1)); have hz2 : w1.heap.size < w2.heap.size := (by have := hgrow1.size; rw [rsize] at this; omega); have hg2 : g < w2.heap.size := (by omega); have y0 := (World.cell?_of_block (a := ⟨g, i * 11, none⟩) (gb g (by omega))).trans z0; have y1 := (World.cell?_of_block (a := ⟨g, i * 11 + 1, none⟩) (gb g (by omega))).trans z1; have y2 := (World.cell?_of_block (a := ⟨g, i * 11 + 2, none⟩) (gb g (by omega))).trans z2; have y3 := (World.cell?_of_block (a := ⟨g, i * 11 + 3, none⟩) (gb g (by omega))).trans z3; have y4 := (World.cell?_of_block (a := ⟨g, i * 11 + 4, none⟩) (gb g (by omega))).trans z4; have y5 := (World.cell?_of_block (a := ⟨g, i * 11 + 5, none⟩) (gb g (by omega))).trans z5; have y6 := (World.cell?_of_block (a := ⟨g, i * 11 + 6, none⟩) (gb g (by omega))).trans z6; have y7 := (World.cell?_of_block (a := ⟨g, i * 11 + 7, none⟩) (gb g (by omega))).trans z7; have y8 := (World.cell?_of_block (a := ⟨g, i * 11 + 8, none⟩) (gb g (by omega))).trans z8; have y9 := (World.cell?_of_block (a := ⟨g, i * 11 + 9, none⟩) (gb g (by omega))).trans z9; have y10 := (World.cell?_of_block (a := ⟨g, i * 11 + 10, none⟩) (gb g (by omega))).trans z10; have HB2 := hide hb2; have HOWN1 := hide hown1; clear gb hb2 hown1 hold1 hgrow1 hat1 z0 z1 z2 z3 z4 z5 z6 z7 z8 z9 z10 u0 u1 u2 u3 u4 u5 u6 u7 u8 u9 u10)
            | (at_builtin; refine push_tk rfl _ _ rfl (w.heap.size + 1) _ (P ++ [t]) x rfl ((unhide HOWN1).alloc _) w2.heap.size rfl (rlast _ (tkObj x)) ?hll ?hbb ?_; (case hll => (rw [List.length_append]; simp; omega)); (case hbb => (rw [rsize]; omega)); intro g2 cap2 w3 hown hold hgrow hat hlt3)
            | fail)
          have hlen : (P ++ [t]).length + 1 = P.length + 1 + 1 := by rw [List.length_append]; rfl
          rw [hlen] at hown
          have hb3 : Below (w.heap.size + 1) W w3 := ((unhide HB2).alloc (by omega) _).grown hgrow (by rw [rsize]; omega) (fun k hk => ((unhide HOWN1).lt k hk).1)
          exact ⟨⟨i + 1, by omega, by go_num, by rw [unhide HTK, (unhide HP).2], by rw [unhide HTK, (unhide HP).1]; exact hown, hb3⟩, by simp [intOf]; omega⟩
      · have HP := hide (partBy_in lessB (y := x) hany)
        clear hany u0 u1 u2 u3 u4 u5 u6 u7 u8 u9 u10
        generalize partBy lessB t (l.take i) = P at *
        go_wp2_with (first | (at_builtin; refine push_tk rfl _ _ rfl (w.heap.size + 1) _ P x rfl ((unhide FV).alloc _) w1.heap.size rfl (rlast _ (tkObj x)) ?hll ?hbb ?_; (case hll => omega); (case hbb => (rw [rsize]; omega)); intro g2 cap2 w3 hown hold hgrow hat hlt3) | fail)
        have hb3 : Below (w.heap.size + 1) W w3 := ((unhide FB).alloc (by omega) _).grown hgrow (by rw [rsize]; omega) (fun k hk => ((unhide FV).lt k hk).1)
        exact ⟨⟨i + 1, by omega, by go_num, by rw [unhide HTK, (unhide HP).2], by rw [unhide HTK, (unhide HP).1]; exact hown, hb3⟩, by simp [intOf]; omega⟩
    · have hii : i = l.length := by omega
      have hT : l.take i = l := by rw [hii, List.take_length]
      have hpl := partBy_len lessB t l
      rw [hT] at HZR
      rw [hT]
      cases hany : anyBy lessB t l
      · have HP := hide (insBy_none lessB hany)
        have HP2 := hide (show partBy lessB t l = l by simp [partBy, hany])
        rw [unhide HP2] at HZR
        clear hany
        rw [unhide HP2]
        go_wp2_with (first | (at_builtin; refine push_tk rfl _ _ rfl (w.heap.size + 1) _ l t rfl ((unhide HZR).alloc _) wr.heap.size rfl (rlast _ (tkObj t)) ?hll ?hbb ?_; (case hll => omega); (case hbb => (rw [rsize]; omega)); intro g2 cap2 w3 hown hold hgrow hat hlt3) | fail)
        have hb3 : Below w.heap.size w w3 := ((unhide HBR).alloc (by omega) _).grown hgrow (by rw [rsize]; omega) (fun k hk => by have := ((unhide HZR).lt k hk).1; omega)
        go_ret
        exact ⟨_, rfl, by rw [unhide HP]; exact owns_base hown (by omega), hb3⟩
      · have HP := hide (show partBy lessB t l = insBy lessB t l by simp [partBy, hany])
        clear hany
        go_wp2_with fail
        go_ret
        exact ⟨_, rfl, by rw [← unhide HP]; exact owns_base (unhide HZR) (by omega), unhide HBR⟩
end Go.Proofs.YtgadceofpbfleaaGreat

/- Walks: ready. -/
namespace Go.Proofs.YtgadceofpbfleaaGreat
open Go.RowKit
set_option linter.unusedVariables false

/-- a segment's tier and window lie within bounds. -/
def sgOk (c : Cf) (s : Sg) : Prop := -1 ≤ s.t ∧ s.t < c.n ∧ 0 ≤ s.win ∧ s.win ≤ 100000
def headRoll (m : RM) (s : Sg) : Bool := !(s.t == -1) && !memB s m.pub && !memB s m.gone && !decide (m.now - m.c.la < m.c.end s)
def headReclaim (m : RM) (s : Sg) : Bool := !memB s m.gone && !(decide (0 ≤ s.t) && !memB s m.pub) && !decide (m.now < m.c.end s + m.c.keep s.t)
def bars1 (m : RM) (s x : Sg) : Bool := onB m.c s x && decide (0 ≤ x.t) && !memB x m.pub
def bars2 (m : RM) (s x : Sg) : Bool := onB m.c x s && !memB x m.pub && !memB x m.gone
def readyB1 (m : RM) (s : Sg) (l : List Sg) : Bool := headRoll m s && l.all (fun x => !bars1 m s x)
def readyB2 (m : RM) (s : Sg) (l : List Sg) : Bool := headReclaim m s && l.all (fun x => !bars2 m s x)

theorem all_of_pre {p : Sg → Bool} {l : List Sg} (h : ∀ j x, j < l.length → l[j]? = some x → p x = true) : l.all p = true := by
  rw [List.all_eq_true]; intro x hx
  obtain ⟨j, hj⟩ := List.getElem?_of_mem hx
  exact h j x (List.getElem?_eq_some_iff.1 hj).1 hj
theorem all_not {p : Sg → Bool} {l : List Sg} {i : Nat} {x : Sg} (h : l[i]? = some x) (hp : p x = false) : l.all p = false := by
  rw [Bool.eq_false_iff]; intro hh; rw [List.all_eq_true] at hh
  rw [hh x (List.mem_of_getElem? h)] at hp; cases hp
theorem pre_step {p : Sg → Bool} {l : List Sg} {i : Nat} {x : Sg} (h : ∀ j y, j < i → l[j]? = some y → p y = true) (hx : l[i]? = some x) (hp : p x = true) : ∀ j y, j < i + 1 → l[j]? = some y → p y = true := fun j y hj hy => by
  by_cases e : j = i
  · subst e; rw [hx] at hy; cases hy; exact hp
  · exact h j y (by omega) hy

set_option maxRecDepth 8000 in
set_option maxHeartbeats 8000000 in
theorem ready1_any {B B2 : Nat} {w : World} {p : Nat} {m : RM} {tv nv pv gv kv : Value} (h : RefAt B w p m tv nv pv gv kv) (hc : m.c.ok) (hgl : m.gone.length ≤ 1000000000000) (hpl : m.pub.length ≤ 1000000000000) (hnow : 0 ≤ m.now ∧ m.now ≤ 100000) (s : Sg) (hs : sgOk m.c s) (l : List Sg) (v : Value) (hl : l.length ≤ 10000000000) (hrow : w.ownsRow B2 126 3 v l.length (l.flatMap sgV)) (hlo : ∀ x ∈ l, sgOk m.c x) :
    Calls Tryz.prog 108 #[.pointer (some ⟨p, 0, none⟩), .int .i64 1, .agg #[.int .i64 s.t, .int .i64 s.ser, .int .i64 s.win], v] w fun e w' => e = .returned (.bool (readyB1 m s l)) ∧ Below w.heap.size w w' := by
  obtain ⟨hs1, hs2, hs3, hs4⟩ := hs
  obtain ⟨al, cl, hv⟩ := row_slice hrow
  subst hv
  obtain ⟨ag, cg, hgv⟩ := row_slice h.grow
  subst hgv
  obtain ⟨ap, cp, hpv⟩ := row_slice h.prow
  subst hpv
  obtain ⟨hla1, hla2⟩ := hc.la
  obtain ⟨hn1, hn2⟩ := hnow
  obtain ⟨hk1, hk2⟩ := hc.keeps hs1 hs2
  obtain ⟨he1, he2⟩ := hc.ends hs1 hs2 hs3 hs4
  have y0 := rlast w (.cells #[.int .i64 s.t, .int .i64 s.ser, .int .i64 s.win] 126)
  have hbw : Below w.heap.size w (w.alloc (.cells #[.int .i64 s.t, .int .i64 s.ser, .int .i64 s.win] 126)) := (Below.refl _ _).alloc (Nat.le_refl _) _
  have hwz := rsize w (.cells #[.int .i64 s.t, .int .i64 s.ser, .int .i64 s.win] 126)
  have H := hide h
  have HROW := hide hrow
  clear h hrow
  go_enter Tryz.func108, Tryz.ntmps108
  go_wp2_with fail
  generalize (w.alloc (.cells #[.int .i64 s.t, .int .i64 s.ser, .int .i64 s.win] 126)) = W at *
  have HRF := hide (fun (u : World) (hu : Below W.heap.size W u) => (unhide H).later (hbw.trans (hu.mono hbw.size)))
  have HRW := hide (fun (u : World) (hu : Below W.heap.size W u) => row_later (unhide HROW) (hbw.trans (hu.mono hbw.size)))
  have HF : Hid (∀ (u : World), Below W.heap.size W u → u.cell? ⟨p, 9, none⟩ = some (.slice ap m.pub.length cp) ∧ u.cell? ⟨p, 10, none⟩ = some (.slice ag m.gone.length cg) ∧ u.cell? ⟨p, 7, none⟩ = some (.int .i64 m.now) ∧ u.cell? ⟨p, 2, none⟩ = some (.int .i64 m.c.la) ∧ u.cell? ⟨w.heap.size, 0, none⟩ = some (.int .i64 s.t) ∧ u.cell? ⟨w.heap.size, 1, none⟩ = some (.int .i64 s.ser) ∧ u.cell? ⟨w.heap.size, 2, none⟩ = some (.int .i64 s.win) ∧ p < u.heap.size ∧ w.heap.size < u.heap.size) := fun u hu => by
    have hr := unhide HRF u hu
    obtain ⟨q7, q8, q9, q10, q11, q12, q13⟩ := hr.rest
    obtain ⟨c0, c1, c2, c3, c4, c5, c6⟩ := hr.conf
    have hb := (hu.block w.heap.size (by omega)).trans y0
    exact ⟨q9, q10, q7, c2, by rw [rcell hb]; rfl, by rw [rcell hb]; rfl, by rw [rcell hb]; rfl, hr.lt, lt_of_heap hb⟩
  have HBW := hide hbw
  have HB0 := hide (Below.refl W.heap.size W)
  have HP := hide (fun (u : World) (hu : Below W.heap.size W u) => among_any B m.pub _ s u (by omega) (unhide HRF u hu).prow)
  have HG := hide (fun (u : World) (hu : Below W.heap.size W u) => among_any B m.gone _ s u (by omega) (unhide HRF u hu).grow)
  have HE := hide (fun (u : World) (hu : Below W.heap.size W u) => end_any (unhide HRF u hu) hc s hs1 hs2 hs3 hs4)
  have HK := hide (fun (u : World) (hu : Below W.heap.size W u) => keep_any (unhide HRF u hu) hc s.t hs1 hs2)
  clear y0 hbw hwz
  obtain ⟨k9, k10, k7, k2, s0, s1, s2, hpz, hsz⟩ := unhide HF W (Below.refl _ _)
  have hne : Nonempty (Later W.heap.size W) := Later.some _ _
  have hlc := fun (u : Later W.heap.size W) b o h => u.cell b o h
  go_wp2_with fail
  refine wp_region_later W.heap.size (by kernel_rfl) (by kernel_rfl) ?_
  repeat (go_big_quiet_step (first | (go_at_call 67; exact Calls.later (Nat.le_refl _) (unhide HP _ ((unhide HB0).trans (Below.mono (Subtype.property _) (unhide HB0).size))))))
  refine wpQuiet_nil ?_
  rintro ⟨w1, hbx⟩
  dsimp only
  clear hlc hne
  have HB1 := hide ((unhide HB0).trans (hbx.mono (unhide HB0).size))
  clear hbx
  clear k9 k10 k7 k2 s0 s1 s2 hpz hsz
  obtain ⟨k9, k10, k7, k2, s0, s1, s2, hpz, hsz⟩ := unhide HF w1 (unhide HB1)
  have hne : Nonempty (Later w1.heap.size w1) := Later.some _ _
  have hlc := fun (u : Later w1.heap.size w1) b o h => u.cell b o h
  go_wp2_with fail
  refine wp_region_later w1.heap.size (by kernel_rfl) (by kernel_rfl) ?_
  repeat (go_big_quiet_step (first | (go_at_call 67; exact Calls.later (Nat.le_refl _) (unhide HG _ ((unhide HB1).trans (Below.mono (Subtype.property _) (unhide HB1).size))))))
  refine wpQuiet_nil ?_
  rintro ⟨w2, hbx⟩
  dsimp only
  clear hlc hne
  have HB2 := hide ((unhide HB1).trans (hbx.mono (unhide HB1).size))
  clear hbx
  clear k9 k10 k7 k2 s0 s1 s2 hpz hsz
  obtain ⟨k9, k10, k7, k2, s0, s1, s2, hpz, hsz⟩ := unhide HF w2 (unhide HB2)
  go_wp2_with fail
  refine (unhide HE w2 (unhide HB2)).mono ?_
  rintro e w3 ⟨rfl, hbx⟩
  have HB3 := hide ((unhide HB2).trans (hbx.mono (unhide HB2).size))
  clear hbx
  clear k9 k10 k7 k2 s0 s1 s2 hpz hsz
  obtain ⟨k9, k10, k7, k2, s0, s1, s2, hpz, hsz⟩ := unhide HF w3 (unhide HB3)
  have HEND := hide (show True from trivial)
  generalize hen : m.c.end s = en at *
  have HEN := hide hen
  clear hen
  cases e0 : (s.t == -1)
  case true =>
    have HR := hide (show readyB1 m s l = false by simp [readyB1, headRoll, e0])
    try rw [e0]
    have hne : Nonempty (Later w3.heap.size w3) := Later.some _ _
    have hlc := fun (u : Later w3.heap.size w3) b o h => u.cell b o h
    go_wp2_with fail
    refine wp_region_later w3.heap.size (by kernel_rfl) (by kernel_rfl) ?_
    repeat (go_big_quiet_step (fail))
    refine wpQuiet_nil ?_
    rintro ⟨w4, hbx⟩
    dsimp only
    clear hlc hne
    have HB4 := hide ((unhide HB3).trans (hbx.mono (unhide HB3).size))
    clear hbx
    go_wp2_with fail
    go_ret
    exact ⟨ret_bool (unhide HR).symm, (unhide HBW).trans ((unhide HB4).mono (unhide HBW).size)⟩
  cases e1 : memB s m.pub
  case true =>
    have HR := hide (show readyB1 m s l = false by simp [readyB1, headRoll, e1])
    try rw [e1]
    have hne : Nonempty (Later w3.heap.size w3) := Later.some _ _
    have hlc := fun (u : Later w3.heap.size w3) b o h => u.cell b o h
    go_wp2_with fail
    refine wp_region_later w3.heap.size (by kernel_rfl) (by kernel_rfl) ?_
    repeat (go_big_quiet_step (fail))
    refine wpQuiet_nil ?_
    rintro ⟨w4, hbx⟩
    dsimp only
    clear hlc hne
    have HB4 := hide ((unhide HB3).trans (hbx.mono (unhide HB3).size))
    clear hbx
    go_wp2_with fail
    go_ret
    exact ⟨ret_bool (unhide HR).symm, (unhide HBW).trans ((unhide HB4).mono (unhide HBW).size)⟩
  cases e2 : memB s m.gone
  case true =>
    have HR := hide (show readyB1 m s l = false by simp [readyB1, headRoll, e2])
    try rw [e2]
    have hne : Nonempty (Later w3.heap.size w3) := Later.some _ _
    have hlc := fun (u : Later w3.heap.size w3) b o h => u.cell b o h
    go_wp2_with fail
    refine wp_region_later w3.heap.size (by kernel_rfl) (by kernel_rfl) ?_
    repeat (go_big_quiet_step (fail))
    refine wpQuiet_nil ?_
    rintro ⟨w4, hbx⟩
    dsimp only
    clear hlc hne
    have HB4 := hide ((unhide HB3).trans (hbx.mono (unhide HB3).size))
    clear hbx
    go_wp2_with fail
    go_ret
    exact ⟨ret_bool (unhide HR).symm, (unhide HBW).trans ((unhide HB4).mono (unhide HBW).size)⟩
  by_cases e3 : m.now - m.c.la < en
  case pos =>
    have HR := hide (show readyB1 m s l = false by simp [readyB1, headRoll, unhide HEN, e3])
    try rw [e1]
    try rw [e2]
    have hne : Nonempty (Later w3.heap.size w3) := Later.some _ _
    have hlc := fun (u : Later w3.heap.size w3) b o h => u.cell b o h
    go_wp2_with fail
    refine wp_region_later w3.heap.size (by kernel_rfl) (by kernel_rfl) ?_
    repeat (go_big_quiet_step (fail))
    refine wpQuiet_nil ?_
    rintro ⟨w4, hbx⟩
    dsimp only
    clear hlc hne
    have HB4 := hide ((unhide HB3).trans (hbx.mono (unhide HB3).size))
    clear hbx
    go_wp2_with fail
    go_ret
    exact ⟨ret_bool (unhide HR).symm, (unhide HBW).trans ((unhide HB4).mono (unhide HBW).size)⟩
  have HR0 := hide (show headRoll m s = true by simp [headRoll, e0, e1, e2, unhide HEN, e3])
  try rw [e1]
  try rw [e2]
  have hne : Nonempty (Later w3.heap.size w3) := Later.some _ _
  have hlc := fun (u : Later w3.heap.size w3) b o h => u.cell b o h
  go_wp2_with fail
  refine wp_region_later w3.heap.size (by kernel_rfl) (by kernel_rfl) ?_
  repeat (go_big_quiet_step (fail))
  refine wpQuiet_nil ?_
  rintro ⟨w4, hbx⟩
  dsimp only
  clear hlc hne
  have HB4 := hide ((unhide HB3).trans (hbx.mono (unhide HB3).size))
  clear hbx
  clear k9 k10 k7 k2 s0 s1 s2 hpz hsz
  go_wp2_with fail
  go_loopw [12, 13, 14, 15, 16, 17] (fun y _ _ _ _ _ wr => ∃ (i : Nat), i ≤ l.length ∧ y = .int .i64 i ∧ (∀ j x, j < i → l[j]? = some x → (!bars1 m s x) = true) ∧ Below W.heap.size W wr) (fun y _ _ _ _ _ _ => l.length - (intOf y).toNat)
  case atStart => exact ⟨0, Nat.zero_le _, rfl, fun j x hj => absurd hj (Nat.not_lt_zero _), unhide HB4⟩
  case round =>
    obtain ⟨i, hi, rfl, ha, hbr⟩ := hrel
    have HA := hide ha
    have HBR := hide hbr
    clear ha hbr
    obtain ⟨k9, k10, k7, k2, s0, s1, s2, hpz, hsz⟩ := unhide HF wr (unhide HBR)
    by_cases hil : i < l.length
    · obtain ⟨x, hx⟩ := rget_of_lt hil
      obtain ⟨hx1, hx2, hx3, hx4⟩ := hlo x (List.mem_of_getElem? hx)
      obtain ⟨g, cap', hvn, _, hgz, x0, x1, x2⟩ := sg_at (unhide HRW wr (unhide HBR)) hx
      injection hvn with hvn1 hvn2 hvn3
      subst hvn1
      have hin : (i : Int) < l.length := by omega
      have HX := hide hx
      clear hx hvn2 hvn3
      go_wp2_with fail
      have hXz := rsize wr (.cells #[.int .i64 x.t, .int .i64 x.ser, .int .i64 x.win] 126)
      have hXl := rlast wr (.cells #[.int .i64 x.t, .int .i64 x.ser, .int .i64 x.win] 126)
      have HBX := hide ((unhide HBR).alloc (unhide HBR).size (.cells #[.int .i64 x.t, .int .i64 x.ser, .int .i64 x.win] 126))
      generalize (wr.alloc (.cells #[.int .i64 x.t, .int .i64 x.ser, .int .i64 x.win] 126)) = X at *
      have HFX : Hid (∀ (u : World), Below X.heap.size X u → u.cell? ⟨wr.heap.size, 0, none⟩ = some (.int .i64 x.t) ∧ u.cell? ⟨wr.heap.size, 1, none⟩ = some (.int .i64 x.ser) ∧ u.cell? ⟨wr.heap.size, 2, none⟩ = some (.int .i64 x.win) ∧ wr.heap.size < u.heap.size) := fun u hu => by
        have hb := (hu.block wr.heap.size (by omega)).trans hXl
        exact ⟨by rw [rcell hb]; rfl, by rw [rcell hb]; rfl, by rw [rcell hb]; rfl, lt_of_heap hb⟩
      have HPX := hide (fun (u : World) (hu : Below W.heap.size W u) => among_any B m.pub _ x u (by omega) (unhide HRF u hu).prow)
      have HGX := hide (fun (u : World) (hu : Below W.heap.size W u) => among_any B m.gone _ x u (by omega) (unhide HRF u hu).grow)
      have HO1 := hide (fun (u : World) (hu : Below W.heap.size W u) => on_any (unhide HRF u hu) hc s x hs1 hs2 hx1 hx2 hx3 hx4)
      have HO2 := hide (fun (u : World) (hu : Below W.heap.size W u) => on_any (unhide HRF u hu) hc x s hx1 hx2 hs1 hs2 hs3 hs4)
      have HX0 := hide (Below.refl X.heap.size X)
      clear hXz hXl x0 x1 x2
      clear k9 k10 k7 k2 s0 s1 s2 hpz hsz
      obtain ⟨k9, k10, k7, k2, s0, s1, s2, hpz, hsz⟩ := unhide HF X (unhide HBX)
      obtain ⟨x0, x1, x2, hxz⟩ := unhide HFX X (unhide HX0)
      have hne : Nonempty (Later X.heap.size X) := Later.some _ _
      have hlc := fun (u : Later X.heap.size X) b o h => u.cell b o h
      go_wp2_with fail
      refine wp_region_later X.heap.size (by kernel_rfl) (by kernel_rfl) ?_
      repeat (go_big_quiet_step (first | (go_at_call 67; exact Calls.later (Nat.le_refl _) (unhide HPX _ ((unhide HBX).trans (Below.mono (Subtype.property _) (unhide HBX).size))))))
      refine wpQuiet_nil ?_
      rintro ⟨w5, hbx⟩
      dsimp only
      clear hlc hne
      have HX5 := hide ((unhide HX0).trans (hbx.mono (unhide HX0).size))
      clear hbx
      have HB5 := hide ((unhide HBX).trans ((unhide HX5).mono (unhide HBX).size))
      clear x0 x1 x2 hxz
      clear k9 k10 k7 k2 s0 s1 s2 hpz hsz
      obtain ⟨k9, k10, k7, k2, s0, s1, s2, hpz, hsz⟩ := unhide HF w5 (unhide HB5)
      obtain ⟨x0, x1, x2, hxz⟩ := unhide HFX w5 (unhide HX5)
      have hne : Nonempty (Later w5.heap.size w5) := Later.some _ _
      have hlc := fun (u : Later w5.heap.size w5) b o h => u.cell b o h
      go_wp2_with fail
      refine wp_region_later w5.heap.size (by kernel_rfl) (by kernel_rfl) ?_
      repeat (go_big_quiet_step (first | (go_at_call 67; exact Calls.later (Nat.le_refl _) (unhide HGX _ ((unhide HB5).trans (Below.mono (Subtype.property _) (unhide HB5).size))))))
      refine wpQuiet_nil ?_
      rintro ⟨w6, hbx⟩
      dsimp only
      clear hlc hne
      have HX6 := hide ((unhide HX5).trans (hbx.mono (unhide HX5).size))
      clear hbx
      have HB6 := hide ((unhide HBX).trans ((unhide HX6).mono (unhide HBX).size))
      clear x0 x1 x2 hxz
      clear k9 k10 k7 k2 s0 s1 s2 hpz hsz
      obtain ⟨k9, k10, k7, k2, s0, s1, s2, hpz, hsz⟩ := unhide HF w6 (unhide HB6)
      obtain ⟨x0, x1, x2, hxz⟩ := unhide HFX w6 (unhide HX6)
      go_wp2_with fail
      refine (unhide HO1 w6 (unhide HB6)).mono ?_
      rintro e w7 ⟨rfl, hbx⟩
      have HX7 := hide ((unhide HX6).trans (hbx.mono (unhide HX6).size))
      have HB7 := hide ((unhide HBX).trans ((unhide HX7).mono (unhide HBX).size))
      clear hbx x0 x1 x2 hxz
      clear k9 k10 k7 k2 s0 s1 s2 hpz hsz
      obtain ⟨k9, k10, k7, k2, s0, s1, s2, hpz, hsz⟩ := unhide HF w7 (unhide HB7)
      obtain ⟨x0, x1, x2, hxz⟩ := unhide HFX w7 (unhide HX7)
      go_wp2_with fail
      refine (unhide HO2 w7 (unhide HB7)).mono ?_
      rintro e w8 ⟨rfl, hbx⟩
      have HX8 := hide ((unhide HX7).trans (hbx.mono (unhide HX7).size))
      have HB8 := hide ((unhide HBX).trans ((unhide HX8).mono (unhide HBX).size))
      clear hbx x0 x1 x2 hxz
      clear k9 k10 k7 k2 s0 s1 s2 hpz hsz
      obtain ⟨k9, k10, k7, k2, s0, s1, s2, hpz, hsz⟩ := unhide HF w8 (unhide HB8)
      obtain ⟨x0, x1, x2, hxz⟩ := unhide HFX w8 (unhide HX8)
      cases o1 : onB m.c s x
      case false =>
        have HBA := hide (show (!bars1 m s x) = true by simp [bars1, o1])
        clear o1
        go_wp2_with fail
        go_roundw
        case rel => exact ⟨i + 1, by omega, by go_num, pre_step (unhide HA) (unhide HX) (unhide HBA), unhide HB8⟩
        case measure => simp [intOf]; omega
      by_cases o2 : 0 ≤ x.t
      case neg =>
        have HBA := hide (show (!bars1 m s x) = true by simp [bars1, o2])
        clear o1
        go_wp2_with fail
        go_roundw
        case rel => exact ⟨i + 1, by omega, by go_num, pre_step (unhide HA) (unhide HX) (unhide HBA), unhide HB8⟩
        case measure => simp [intOf]; omega
      cases o3 : memB x m.pub
      case true =>
        have HBA := hide (show (!bars1 m s x) = true by simp [bars1, o3])
        clear o1 o3
        go_wp2_with fail
        go_roundw
        case rel => exact ⟨i + 1, by omega, by go_num, pre_step (unhide HA) (unhide HX) (unhide HBA), unhide HB8⟩
        case measure => simp [intOf]; omega
      have HR := hide (show readyB1 m s l = false by unfold readyB1; rw [all_not (unhide HX) (by simp [bars1, o1, o2, o3])]; simp)
      clear o1 o3
      go_wp2_with fail
      go_ret
      exact ⟨ret_bool (unhide HR).symm, (unhide HBW).trans ((unhide HB8).mono (unhide HBW).size)⟩
    · have HR := hide (show readyB1 m s l = true by unfold readyB1; rw [unhide HR0, all_of_pre (fun j x hj hx => unhide HA j x (by omega) hx)]; rfl)
      go_wp2_with fail
      go_ret
      exact ⟨ret_bool (unhide HR).symm, (unhide HBW).trans ((unhide HBR).mono (unhide HBW).size)⟩
end Go.Proofs.YtgadceofpbfleaaGreat

/- Walks: ready, of a Reclaim. -/
namespace Go.Proofs.YtgadceofpbfleaaGreat
open Go.RowKit
set_option linter.unusedVariables false

set_option maxRecDepth 8000 in
set_option maxHeartbeats 8000000 in
theorem ready2_any {B B2 : Nat} {w : World} {p : Nat} {m : RM} {tv nv pv gv kv : Value} (h : RefAt B w p m tv nv pv gv kv) (hc : m.c.ok) (hgl : m.gone.length ≤ 1000000000000) (hpl : m.pub.length ≤ 1000000000000) (hnow : 0 ≤ m.now ∧ m.now ≤ 100000) (s : Sg) (hs : sgOk m.c s) (l : List Sg) (v : Value) (hl : l.length ≤ 10000000000) (hrow : w.ownsRow B2 126 3 v l.length (l.flatMap sgV)) (hlo : ∀ x ∈ l, sgOk m.c x) :
    Calls Tryz.prog 108 #[.pointer (some ⟨p, 0, none⟩), .int .i64 2, .agg #[.int .i64 s.t, .int .i64 s.ser, .int .i64 s.win], v] w fun e w' => e = .returned (.bool (readyB2 m s l)) ∧ Below w.heap.size w w' := by
  obtain ⟨hs1, hs2, hs3, hs4⟩ := hs
  obtain ⟨al, cl, hv⟩ := row_slice hrow
  subst hv
  obtain ⟨ag, cg, hgv⟩ := row_slice h.grow
  subst hgv
  obtain ⟨ap, cp, hpv⟩ := row_slice h.prow
  subst hpv
  obtain ⟨hla1, hla2⟩ := hc.la
  obtain ⟨hn1, hn2⟩ := hnow
  obtain ⟨hk1, hk2⟩ := hc.keeps hs1 hs2
  obtain ⟨he1, he2⟩ := hc.ends hs1 hs2 hs3 hs4
  have y0 := rlast w (.cells #[.int .i64 s.t, .int .i64 s.ser, .int .i64 s.win] 126)
  have hbw : Below w.heap.size w (w.alloc (.cells #[.int .i64 s.t, .int .i64 s.ser, .int .i64 s.win] 126)) := (Below.refl _ _).alloc (Nat.le_refl _) _
  have hwz := rsize w (.cells #[.int .i64 s.t, .int .i64 s.ser, .int .i64 s.win] 126)
  have H := hide h
  have HROW := hide hrow
  clear h hrow
  go_enter Tryz.func108, Tryz.ntmps108
  go_wp2_with fail
  generalize (w.alloc (.cells #[.int .i64 s.t, .int .i64 s.ser, .int .i64 s.win] 126)) = W at *
  have HRF := hide (fun (u : World) (hu : Below W.heap.size W u) => (unhide H).later (hbw.trans (hu.mono hbw.size)))
  have HRW := hide (fun (u : World) (hu : Below W.heap.size W u) => row_later (unhide HROW) (hbw.trans (hu.mono hbw.size)))
  have HF : Hid (∀ (u : World), Below W.heap.size W u → u.cell? ⟨p, 9, none⟩ = some (.slice ap m.pub.length cp) ∧ u.cell? ⟨p, 10, none⟩ = some (.slice ag m.gone.length cg) ∧ u.cell? ⟨p, 7, none⟩ = some (.int .i64 m.now) ∧ u.cell? ⟨p, 2, none⟩ = some (.int .i64 m.c.la) ∧ u.cell? ⟨w.heap.size, 0, none⟩ = some (.int .i64 s.t) ∧ u.cell? ⟨w.heap.size, 1, none⟩ = some (.int .i64 s.ser) ∧ u.cell? ⟨w.heap.size, 2, none⟩ = some (.int .i64 s.win) ∧ p < u.heap.size ∧ w.heap.size < u.heap.size) := fun u hu => by
    have hr := unhide HRF u hu
    obtain ⟨q7, q8, q9, q10, q11, q12, q13⟩ := hr.rest
    obtain ⟨c0, c1, c2, c3, c4, c5, c6⟩ := hr.conf
    have hb := (hu.block w.heap.size (by omega)).trans y0
    exact ⟨q9, q10, q7, c2, by rw [rcell hb]; rfl, by rw [rcell hb]; rfl, by rw [rcell hb]; rfl, hr.lt, lt_of_heap hb⟩
  have HBW := hide hbw
  have HB0 := hide (Below.refl W.heap.size W)
  have HP := hide (fun (u : World) (hu : Below W.heap.size W u) => among_any B m.pub _ s u (by omega) (unhide HRF u hu).prow)
  have HG := hide (fun (u : World) (hu : Below W.heap.size W u) => among_any B m.gone _ s u (by omega) (unhide HRF u hu).grow)
  have HE := hide (fun (u : World) (hu : Below W.heap.size W u) => end_any (unhide HRF u hu) hc s hs1 hs2 hs3 hs4)
  have HK := hide (fun (u : World) (hu : Below W.heap.size W u) => keep_any (unhide HRF u hu) hc s.t hs1 hs2)
  clear y0 hbw hwz
  obtain ⟨k9, k10, k7, k2, s0, s1, s2, hpz, hsz⟩ := unhide HF W (Below.refl _ _)
  have hne : Nonempty (Later W.heap.size W) := Later.some _ _
  have hlc := fun (u : Later W.heap.size W) b o h => u.cell b o h
  go_wp2_with fail
  refine wp_region_later W.heap.size (by kernel_rfl) (by kernel_rfl) ?_
  repeat (go_big_quiet_step (first | (go_at_call 67; exact Calls.later (Nat.le_refl _) (unhide HP _ ((unhide HB0).trans (Below.mono (Subtype.property _) (unhide HB0).size))))))
  refine wpQuiet_nil ?_
  rintro ⟨w1, hbx⟩
  dsimp only
  clear hlc hne
  have HB1 := hide ((unhide HB0).trans (hbx.mono (unhide HB0).size))
  clear hbx
  clear k9 k10 k7 k2 s0 s1 s2 hpz hsz
  obtain ⟨k9, k10, k7, k2, s0, s1, s2, hpz, hsz⟩ := unhide HF w1 (unhide HB1)
  have hne : Nonempty (Later w1.heap.size w1) := Later.some _ _
  have hlc := fun (u : Later w1.heap.size w1) b o h => u.cell b o h
  go_wp2_with fail
  refine wp_region_later w1.heap.size (by kernel_rfl) (by kernel_rfl) ?_
  repeat (go_big_quiet_step (first | (go_at_call 67; exact Calls.later (Nat.le_refl _) (unhide HG _ ((unhide HB1).trans (Below.mono (Subtype.property _) (unhide HB1).size))))))
  refine wpQuiet_nil ?_
  rintro ⟨w2, hbx⟩
  dsimp only
  clear hlc hne
  have HB2 := hide ((unhide HB1).trans (hbx.mono (unhide HB1).size))
  clear hbx
  clear k9 k10 k7 k2 s0 s1 s2 hpz hsz
  obtain ⟨k9, k10, k7, k2, s0, s1, s2, hpz, hsz⟩ := unhide HF w2 (unhide HB2)
  go_wp2_with fail
  refine (unhide HE w2 (unhide HB2)).mono ?_
  rintro e w3 ⟨rfl, hbx⟩
  have HB3 := hide ((unhide HB2).trans (hbx.mono (unhide HB2).size))
  clear hbx
  clear k9 k10 k7 k2 s0 s1 s2 hpz hsz
  obtain ⟨k9, k10, k7, k2, s0, s1, s2, hpz, hsz⟩ := unhide HF w3 (unhide HB3)
  have HEND := hide (show True from trivial)
  generalize hen : m.c.end s = en at *
  have HEN := hide hen
  clear hen
  cases e0 : memB s m.gone
  case true =>
    have HR := hide (show readyB2 m s l = false by simp [readyB2, headReclaim, e0])
    try rw [e0]
    have hne : Nonempty (Later w3.heap.size w3) := Later.some _ _
    have hlc := fun (u : Later w3.heap.size w3) b o h => u.cell b o h
    go_wp2_with fail
    refine wp_region_later w3.heap.size (by kernel_rfl) (by kernel_rfl) ?_
    repeat (go_big_quiet_step (first | (go_at_call 125; exact Calls.later_same (unhide HK _ ((unhide HB3).trans (Below.mono (Subtype.property _) (unhide HB3).size))))))
    refine wpQuiet_nil ?_
    rintro ⟨w4, hbx⟩
    dsimp only
    clear hlc hne
    have HB4 := hide ((unhide HB3).trans (hbx.mono (unhide HB3).size))
    clear hbx
    go_wp2_with fail
    go_ret
    exact ⟨ret_bool (unhide HR).symm, (unhide HBW).trans ((unhide HB4).mono (unhide HBW).size)⟩
  cases e1 : (decide (0 ≤ s.t) && !memB s m.pub)
  case true =>
    have HR := hide (show readyB2 m s l = false by simp [readyB2, headReclaim, e1])
    rw [Bool.and_eq_true, decide_eq_true_eq, Bool.not_eq_true'] at e1
    obtain ⟨e1a, e1b⟩ := e1
    try rw [e0]
    try rw [e1b]
    have hne : Nonempty (Later w3.heap.size w3) := Later.some _ _
    have hlc := fun (u : Later w3.heap.size w3) b o h => u.cell b o h
    go_wp2_with fail
    refine wp_region_later w3.heap.size (by kernel_rfl) (by kernel_rfl) ?_
    repeat (go_big_quiet_step (first | (go_at_call 125; exact Calls.later_same (unhide HK _ ((unhide HB3).trans (Below.mono (Subtype.property _) (unhide HB3).size))))))
    refine wpQuiet_nil ?_
    rintro ⟨w4, hbx⟩
    dsimp only
    clear hlc hne
    have HB4 := hide ((unhide HB3).trans (hbx.mono (unhide HB3).size))
    clear hbx
    go_wp2_with fail
    go_ret
    exact ⟨ret_bool (unhide HR).symm, (unhide HBW).trans ((unhide HB4).mono (unhide HBW).size)⟩
  rw [Bool.and_eq_false_iff, decide_eq_false_iff_not, Bool.not_eq_false'] at e1
  by_cases e3 : m.now < en + m.c.keep s.t
  case pos =>
    have HR := hide (show readyB2 m s l = false by simp [readyB2, headReclaim, unhide HEN, e3])
    try rw [e0]
    by_cases e4 : 0 ≤ s.t
    case pos =>
      rw [e1.resolve_left (fun h => h e4)]
      have hne : Nonempty (Later w3.heap.size w3) := Later.some _ _
      have hlc := fun (u : Later w3.heap.size w3) b o h => u.cell b o h
      go_wp2_with fail
      refine wp_region_later w3.heap.size (by kernel_rfl) (by kernel_rfl) ?_
      repeat (go_big_quiet_step (first | (go_at_call 125; exact Calls.later_same (unhide HK _ ((unhide HB3).trans (Below.mono (Subtype.property _) (unhide HB3).size))))))
      refine wpQuiet_nil ?_
      rintro ⟨w4, hbx⟩
      dsimp only
      clear hlc hne
      have HB4 := hide ((unhide HB3).trans (hbx.mono (unhide HB3).size))
      clear hbx
      go_wp2_with fail
      go_ret
      exact ⟨ret_bool (unhide HR).symm, (unhide HBW).trans ((unhide HB4).mono (unhide HBW).size)⟩
    case neg =>
      have e4b : decide (0 ≤ s.t) = false := by simpa using e4
      have hne : Nonempty (Later w3.heap.size w3) := Later.some _ _
      have hlc := fun (u : Later w3.heap.size w3) b o h => u.cell b o h
      go_wp2_with fail
      refine wp_region_later w3.heap.size (by kernel_rfl) (by kernel_rfl) ?_
      repeat (go_big_quiet_step (first | (go_at_call 125; exact Calls.later_same (unhide HK _ ((unhide HB3).trans (Below.mono (Subtype.property _) (unhide HB3).size))))))
      refine wpQuiet_nil ?_
      rintro ⟨w4, hbx⟩
      dsimp only
      clear hlc hne
      have HB4 := hide ((unhide HB3).trans (hbx.mono (unhide HB3).size))
      clear hbx
      go_wp2_with fail
      go_ret
      exact ⟨ret_bool (unhide HR).symm, (unhide HBW).trans ((unhide HB4).mono (unhide HBW).size)⟩
  have HR0 := hide (show headReclaim m s = true by rcases e1 with e1 | e1 <;> simp [headReclaim, e0, e1, unhide HEN, e3])
  try rw [e0]
  have HGO : Hid (∀ (b : Bool), True) := fun _ => trivial
  by_cases e4 : 0 ≤ s.t
  case pos =>
    rw [e1.resolve_left (fun h => h e4)]
    have hne : Nonempty (Later w3.heap.size w3) := Later.some _ _
    have hlc := fun (u : Later w3.heap.size w3) b o h => u.cell b o h
    go_wp2_with fail
    refine wp_region_later w3.heap.size (by kernel_rfl) (by kernel_rfl) ?_
    repeat (go_big_quiet_step (first | (go_at_call 125; exact Calls.later_same (unhide HK _ ((unhide HB3).trans (Below.mono (Subtype.property _) (unhide HB3).size))))))
    refine wpQuiet_nil ?_
    rintro ⟨w4, hbx⟩
    dsimp only
    clear hlc hne
    have HB4 := hide ((unhide HB3).trans (hbx.mono (unhide HB3).size))
    clear hbx
    clear k9 k10 k7 k2 s0 s1 s2 hpz hsz
    go_wp2_with fail
    go_loopw [12, 13, 14, 15, 16, 17] (fun y _ _ _ _ _ wr => ∃ (i : Nat), i ≤ l.length ∧ y = .int .i64 i ∧ (∀ j x, j < i → l[j]? = some x → (!bars2 m s x) = true) ∧ Below W.heap.size W wr) (fun y _ _ _ _ _ _ => l.length - (intOf y).toNat)
    case atStart => exact ⟨0, Nat.zero_le _, rfl, fun j x hj => absurd hj (Nat.not_lt_zero _), unhide HB4⟩
    case round =>
      obtain ⟨i, hi, rfl, ha, hbr⟩ := hrel
      have HA := hide ha
      have HBR := hide hbr
      clear ha hbr
      obtain ⟨k9, k10, k7, k2, s0, s1, s2, hpz, hsz⟩ := unhide HF wr (unhide HBR)
      by_cases hil : i < l.length
      · obtain ⟨x, hx⟩ := rget_of_lt hil
        obtain ⟨hx1, hx2, hx3, hx4⟩ := hlo x (List.mem_of_getElem? hx)
        obtain ⟨g, cap', hvn, _, hgz, x0, x1, x2⟩ := sg_at (unhide HRW wr (unhide HBR)) hx
        injection hvn with hvn1 hvn2 hvn3
        subst hvn1
        have hin : (i : Int) < l.length := by omega
        have HX := hide hx
        clear hx hvn2 hvn3
        go_wp2_with fail
        have hXz := rsize wr (.cells #[.int .i64 x.t, .int .i64 x.ser, .int .i64 x.win] 126)
        have hXl := rlast wr (.cells #[.int .i64 x.t, .int .i64 x.ser, .int .i64 x.win] 126)
        have HBX := hide ((unhide HBR).alloc (unhide HBR).size (.cells #[.int .i64 x.t, .int .i64 x.ser, .int .i64 x.win] 126))
        generalize (wr.alloc (.cells #[.int .i64 x.t, .int .i64 x.ser, .int .i64 x.win] 126)) = X at *
        have HFX : Hid (∀ (u : World), Below X.heap.size X u → u.cell? ⟨wr.heap.size, 0, none⟩ = some (.int .i64 x.t) ∧ u.cell? ⟨wr.heap.size, 1, none⟩ = some (.int .i64 x.ser) ∧ u.cell? ⟨wr.heap.size, 2, none⟩ = some (.int .i64 x.win) ∧ wr.heap.size < u.heap.size) := fun u hu => by
          have hb := (hu.block wr.heap.size (by omega)).trans hXl
          exact ⟨by rw [rcell hb]; rfl, by rw [rcell hb]; rfl, by rw [rcell hb]; rfl, lt_of_heap hb⟩
        have HPX := hide (fun (u : World) (hu : Below W.heap.size W u) => among_any B m.pub _ x u (by omega) (unhide HRF u hu).prow)
        have HGX := hide (fun (u : World) (hu : Below W.heap.size W u) => among_any B m.gone _ x u (by omega) (unhide HRF u hu).grow)
        have HO1 := hide (fun (u : World) (hu : Below W.heap.size W u) => on_any (unhide HRF u hu) hc s x hs1 hs2 hx1 hx2 hx3 hx4)
        have HO2 := hide (fun (u : World) (hu : Below W.heap.size W u) => on_any (unhide HRF u hu) hc x s hx1 hx2 hs1 hs2 hs3 hs4)
        have HX0 := hide (Below.refl X.heap.size X)
        clear hXz hXl x0 x1 x2
        clear k9 k10 k7 k2 s0 s1 s2 hpz hsz
        obtain ⟨k9, k10, k7, k2, s0, s1, s2, hpz, hsz⟩ := unhide HF X (unhide HBX)
        obtain ⟨x0, x1, x2, hxz⟩ := unhide HFX X (unhide HX0)
        have hne : Nonempty (Later X.heap.size X) := Later.some _ _
        have hlc := fun (u : Later X.heap.size X) b o h => u.cell b o h
        go_wp2_with fail
        refine wp_region_later X.heap.size (by kernel_rfl) (by kernel_rfl) ?_
        repeat (go_big_quiet_step (first | (go_at_call 67; exact Calls.later (Nat.le_refl _) (unhide HPX _ ((unhide HBX).trans (Below.mono (Subtype.property _) (unhide HBX).size))))))
        refine wpQuiet_nil ?_
        rintro ⟨w5, hbx⟩
        dsimp only
        clear hlc hne
        have HX5 := hide ((unhide HX0).trans (hbx.mono (unhide HX0).size))
        clear hbx
        have HB5 := hide ((unhide HBX).trans ((unhide HX5).mono (unhide HBX).size))
        clear x0 x1 x2 hxz
        clear k9 k10 k7 k2 s0 s1 s2 hpz hsz
        obtain ⟨k9, k10, k7, k2, s0, s1, s2, hpz, hsz⟩ := unhide HF w5 (unhide HB5)
        obtain ⟨x0, x1, x2, hxz⟩ := unhide HFX w5 (unhide HX5)
        have hne : Nonempty (Later w5.heap.size w5) := Later.some _ _
        have hlc := fun (u : Later w5.heap.size w5) b o h => u.cell b o h
        go_wp2_with fail
        refine wp_region_later w5.heap.size (by kernel_rfl) (by kernel_rfl) ?_
        repeat (go_big_quiet_step (first | (go_at_call 67; exact Calls.later (Nat.le_refl _) (unhide HGX _ ((unhide HB5).trans (Below.mono (Subtype.property _) (unhide HB5).size))))))
        refine wpQuiet_nil ?_
        rintro ⟨w6, hbx⟩
        dsimp only
        clear hlc hne
        have HX6 := hide ((unhide HX5).trans (hbx.mono (unhide HX5).size))
        clear hbx
        have HB6 := hide ((unhide HBX).trans ((unhide HX6).mono (unhide HBX).size))
        clear x0 x1 x2 hxz
        clear k9 k10 k7 k2 s0 s1 s2 hpz hsz
        obtain ⟨k9, k10, k7, k2, s0, s1, s2, hpz, hsz⟩ := unhide HF w6 (unhide HB6)
        obtain ⟨x0, x1, x2, hxz⟩ := unhide HFX w6 (unhide HX6)
        go_wp2_with fail
        refine (unhide HO1 w6 (unhide HB6)).mono ?_
        rintro e w7 ⟨rfl, hbx⟩
        have HX7 := hide ((unhide HX6).trans (hbx.mono (unhide HX6).size))
        have HB7 := hide ((unhide HBX).trans ((unhide HX7).mono (unhide HBX).size))
        clear hbx x0 x1 x2 hxz
        clear k9 k10 k7 k2 s0 s1 s2 hpz hsz
        obtain ⟨k9, k10, k7, k2, s0, s1, s2, hpz, hsz⟩ := unhide HF w7 (unhide HB7)
        obtain ⟨x0, x1, x2, hxz⟩ := unhide HFX w7 (unhide HX7)
        go_wp2_with fail
        refine (unhide HO2 w7 (unhide HB7)).mono ?_
        rintro e w8 ⟨rfl, hbx⟩
        have HX8 := hide ((unhide HX7).trans (hbx.mono (unhide HX7).size))
        have HB8 := hide ((unhide HBX).trans ((unhide HX8).mono (unhide HBX).size))
        clear hbx x0 x1 x2 hxz
        clear k9 k10 k7 k2 s0 s1 s2 hpz hsz
        obtain ⟨k9, k10, k7, k2, s0, s1, s2, hpz, hsz⟩ := unhide HF w8 (unhide HB8)
        obtain ⟨x0, x1, x2, hxz⟩ := unhide HFX w8 (unhide HX8)
        cases o1 : onB m.c x s
        case false =>
          have HBA := hide (show (!bars2 m s x) = true by simp [bars2, o1])
          clear o1
          go_wp2_with fail
          go_roundw
          case rel => exact ⟨i + 1, by omega, by go_num, pre_step (unhide HA) (unhide HX) (unhide HBA), unhide HB8⟩
          case measure => simp [intOf]; omega
        cases o2 : memB x m.pub
        case true =>
          have HBA := hide (show (!bars2 m s x) = true by simp [bars2, o2])
          clear o1 o2
          go_wp2_with fail
          go_roundw
          case rel => exact ⟨i + 1, by omega, by go_num, pre_step (unhide HA) (unhide HX) (unhide HBA), unhide HB8⟩
          case measure => simp [intOf]; omega
        cases o3 : memB x m.gone
        case true =>
          have HBA := hide (show (!bars2 m s x) = true by simp [bars2, o3])
          clear o1 o2 o3
          go_wp2_with fail
          go_roundw
          case rel => exact ⟨i + 1, by omega, by go_num, pre_step (unhide HA) (unhide HX) (unhide HBA), unhide HB8⟩
          case measure => simp [intOf]; omega
        have HR := hide (show readyB2 m s l = false by unfold readyB2; rw [all_not (unhide HX) (by simp [bars2, o1, o2, o3])]; simp)
        clear o1 o2 o3
        go_wp2_with fail
        go_ret
        exact ⟨ret_bool (unhide HR).symm, (unhide HBW).trans ((unhide HB8).mono (unhide HBW).size)⟩
      · have HR := hide (show readyB2 m s l = true by unfold readyB2; rw [unhide HR0, all_of_pre (fun j x hj hx => unhide HA j x (by omega) hx)]; rfl)
        go_wp2_with fail
        go_ret
        exact ⟨ret_bool (unhide HR).symm, (unhide HBW).trans ((unhide HBR).mono (unhide HBW).size)⟩
  case neg =>
    have e4b : decide (0 ≤ s.t) = false := by simpa using e4
    have hne : Nonempty (Later w3.heap.size w3) := Later.some _ _
    have hlc := fun (u : Later w3.heap.size w3) b o h => u.cell b o h
    go_wp2_with fail
    refine wp_region_later w3.heap.size (by kernel_rfl) (by kernel_rfl) ?_
    repeat (go_big_quiet_step (first | (go_at_call 125; exact Calls.later_same (unhide HK _ ((unhide HB3).trans (Below.mono (Subtype.property _) (unhide HB3).size))))))
    refine wpQuiet_nil ?_
    rintro ⟨w4, hbx⟩
    dsimp only
    clear hlc hne
    have HB4 := hide ((unhide HB3).trans (hbx.mono (unhide HB3).size))
    clear hbx
    clear k9 k10 k7 k2 s0 s1 s2 hpz hsz
    go_wp2_with fail
    go_loopw [12, 13, 14, 15, 16, 17] (fun y _ _ _ _ _ wr => ∃ (i : Nat), i ≤ l.length ∧ y = .int .i64 i ∧ (∀ j x, j < i → l[j]? = some x → (!bars2 m s x) = true) ∧ Below W.heap.size W wr) (fun y _ _ _ _ _ _ => l.length - (intOf y).toNat)
    case atStart => exact ⟨0, Nat.zero_le _, rfl, fun j x hj => absurd hj (Nat.not_lt_zero _), unhide HB4⟩
    case round =>
      obtain ⟨i, hi, rfl, ha, hbr⟩ := hrel
      have HA := hide ha
      have HBR := hide hbr
      clear ha hbr
      obtain ⟨k9, k10, k7, k2, s0, s1, s2, hpz, hsz⟩ := unhide HF wr (unhide HBR)
      by_cases hil : i < l.length
      · obtain ⟨x, hx⟩ := rget_of_lt hil
        obtain ⟨hx1, hx2, hx3, hx4⟩ := hlo x (List.mem_of_getElem? hx)
        obtain ⟨g, cap', hvn, _, hgz, x0, x1, x2⟩ := sg_at (unhide HRW wr (unhide HBR)) hx
        injection hvn with hvn1 hvn2 hvn3
        subst hvn1
        have hin : (i : Int) < l.length := by omega
        have HX := hide hx
        clear hx hvn2 hvn3
        go_wp2_with fail
        have hXz := rsize wr (.cells #[.int .i64 x.t, .int .i64 x.ser, .int .i64 x.win] 126)
        have hXl := rlast wr (.cells #[.int .i64 x.t, .int .i64 x.ser, .int .i64 x.win] 126)
        have HBX := hide ((unhide HBR).alloc (unhide HBR).size (.cells #[.int .i64 x.t, .int .i64 x.ser, .int .i64 x.win] 126))
        generalize (wr.alloc (.cells #[.int .i64 x.t, .int .i64 x.ser, .int .i64 x.win] 126)) = X at *
        have HFX : Hid (∀ (u : World), Below X.heap.size X u → u.cell? ⟨wr.heap.size, 0, none⟩ = some (.int .i64 x.t) ∧ u.cell? ⟨wr.heap.size, 1, none⟩ = some (.int .i64 x.ser) ∧ u.cell? ⟨wr.heap.size, 2, none⟩ = some (.int .i64 x.win) ∧ wr.heap.size < u.heap.size) := fun u hu => by
          have hb := (hu.block wr.heap.size (by omega)).trans hXl
          exact ⟨by rw [rcell hb]; rfl, by rw [rcell hb]; rfl, by rw [rcell hb]; rfl, lt_of_heap hb⟩
        have HPX := hide (fun (u : World) (hu : Below W.heap.size W u) => among_any B m.pub _ x u (by omega) (unhide HRF u hu).prow)
        have HGX := hide (fun (u : World) (hu : Below W.heap.size W u) => among_any B m.gone _ x u (by omega) (unhide HRF u hu).grow)
        have HO1 := hide (fun (u : World) (hu : Below W.heap.size W u) => on_any (unhide HRF u hu) hc s x hs1 hs2 hx1 hx2 hx3 hx4)
        have HO2 := hide (fun (u : World) (hu : Below W.heap.size W u) => on_any (unhide HRF u hu) hc x s hx1 hx2 hs1 hs2 hs3 hs4)
        have HX0 := hide (Below.refl X.heap.size X)
        clear hXz hXl x0 x1 x2
        clear k9 k10 k7 k2 s0 s1 s2 hpz hsz
        obtain ⟨k9, k10, k7, k2, s0, s1, s2, hpz, hsz⟩ := unhide HF X (unhide HBX)
        obtain ⟨x0, x1, x2, hxz⟩ := unhide HFX X (unhide HX0)
        have hne : Nonempty (Later X.heap.size X) := Later.some _ _
        have hlc := fun (u : Later X.heap.size X) b o h => u.cell b o h
        go_wp2_with fail
        refine wp_region_later X.heap.size (by kernel_rfl) (by kernel_rfl) ?_
        repeat (go_big_quiet_step (first | (go_at_call 67; exact Calls.later (Nat.le_refl _) (unhide HPX _ ((unhide HBX).trans (Below.mono (Subtype.property _) (unhide HBX).size))))))
        refine wpQuiet_nil ?_
        rintro ⟨w5, hbx⟩
        dsimp only
        clear hlc hne
        have HX5 := hide ((unhide HX0).trans (hbx.mono (unhide HX0).size))
        clear hbx
        have HB5 := hide ((unhide HBX).trans ((unhide HX5).mono (unhide HBX).size))
        clear x0 x1 x2 hxz
        clear k9 k10 k7 k2 s0 s1 s2 hpz hsz
        obtain ⟨k9, k10, k7, k2, s0, s1, s2, hpz, hsz⟩ := unhide HF w5 (unhide HB5)
        obtain ⟨x0, x1, x2, hxz⟩ := unhide HFX w5 (unhide HX5)
        have hne : Nonempty (Later w5.heap.size w5) := Later.some _ _
        have hlc := fun (u : Later w5.heap.size w5) b o h => u.cell b o h
        go_wp2_with fail
        refine wp_region_later w5.heap.size (by kernel_rfl) (by kernel_rfl) ?_
        repeat (go_big_quiet_step (first | (go_at_call 67; exact Calls.later (Nat.le_refl _) (unhide HGX _ ((unhide HB5).trans (Below.mono (Subtype.property _) (unhide HB5).size))))))
        refine wpQuiet_nil ?_
        rintro ⟨w6, hbx⟩
        dsimp only
        clear hlc hne
        have HX6 := hide ((unhide HX5).trans (hbx.mono (unhide HX5).size))
        clear hbx
        have HB6 := hide ((unhide HBX).trans ((unhide HX6).mono (unhide HBX).size))
        clear x0 x1 x2 hxz
        clear k9 k10 k7 k2 s0 s1 s2 hpz hsz
        obtain ⟨k9, k10, k7, k2, s0, s1, s2, hpz, hsz⟩ := unhide HF w6 (unhide HB6)
        obtain ⟨x0, x1, x2, hxz⟩ := unhide HFX w6 (unhide HX6)
        go_wp2_with fail
        refine (unhide HO1 w6 (unhide HB6)).mono ?_
        rintro e w7 ⟨rfl, hbx⟩
        have HX7 := hide ((unhide HX6).trans (hbx.mono (unhide HX6).size))
        have HB7 := hide ((unhide HBX).trans ((unhide HX7).mono (unhide HBX).size))
        clear hbx x0 x1 x2 hxz
        clear k9 k10 k7 k2 s0 s1 s2 hpz hsz
        obtain ⟨k9, k10, k7, k2, s0, s1, s2, hpz, hsz⟩ := unhide HF w7 (unhide HB7)
        obtain ⟨x0, x1, x2, hxz⟩ := unhide HFX w7 (unhide HX7)
        go_wp2_with fail
        refine (unhide HO2 w7 (unhide HB7)).mono ?_
        rintro e w8 ⟨rfl, hbx⟩
        have HX8 := hide ((unhide HX7).trans (hbx.mono (unhide HX7).size))
        have HB8 := hide ((unhide HBX).trans ((unhide HX8).mono (unhide HBX).size))
        clear hbx x0 x1 x2 hxz
        clear k9 k10 k7 k2 s0 s1 s2 hpz hsz
        obtain ⟨k9, k10, k7, k2, s0, s1, s2, hpz, hsz⟩ := unhide HF w8 (unhide HB8)
        obtain ⟨x0, x1, x2, hxz⟩ := unhide HFX w8 (unhide HX8)
        cases o1 : onB m.c x s
        case false =>
          have HBA := hide (show (!bars2 m s x) = true by simp [bars2, o1])
          clear o1
          go_wp2_with fail
          go_roundw
          case rel => exact ⟨i + 1, by omega, by go_num, pre_step (unhide HA) (unhide HX) (unhide HBA), unhide HB8⟩
          case measure => simp [intOf]; omega
        cases o2 : memB x m.pub
        case true =>
          have HBA := hide (show (!bars2 m s x) = true by simp [bars2, o2])
          clear o1 o2
          go_wp2_with fail
          go_roundw
          case rel => exact ⟨i + 1, by omega, by go_num, pre_step (unhide HA) (unhide HX) (unhide HBA), unhide HB8⟩
          case measure => simp [intOf]; omega
        cases o3 : memB x m.gone
        case true =>
          have HBA := hide (show (!bars2 m s x) = true by simp [bars2, o3])
          clear o1 o2 o3
          go_wp2_with fail
          go_roundw
          case rel => exact ⟨i + 1, by omega, by go_num, pre_step (unhide HA) (unhide HX) (unhide HBA), unhide HB8⟩
          case measure => simp [intOf]; omega
        have HR := hide (show readyB2 m s l = false by unfold readyB2; rw [all_not (unhide HX) (by simp [bars2, o1, o2, o3])]; simp)
        clear o1 o2 o3
        go_wp2_with fail
        go_ret
        exact ⟨ret_bool (unhide HR).symm, (unhide HBW).trans ((unhide HB8).mono (unhide HBW).size)⟩
      · have HR := hide (show readyB2 m s l = true by unfold readyB2; rw [unhide HR0, all_of_pre (fun j x hj hx => unhide HA j x (by omega) hx)]; rfl)
        go_wp2_with fail
        go_ret
        exact ⟨ret_bool (unhide HR).symm, (unhide HBW).trans ((unhide HBR).mono (unhide HBW).size)⟩
end Go.Proofs.YtgadceofpbfleaaGreat
