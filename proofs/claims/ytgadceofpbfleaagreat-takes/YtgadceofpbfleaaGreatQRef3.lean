import Derived.Test.YtgadceofpbfleaaGreatQRef2

/- Walks: end, keep. -/
namespace Go.Proofs.YtgadceofpbfleaaGreat
open Go.RowKit
set_option linter.unusedVariables false

def Cf.end (c : Cf) (s : Sg) : Int := (s.win + 1) * c.width s.t
def Cf.keep (c : Cf) (t : Int) : Int := if t = -1 then c.ke else c.K t.toNat

theorem Cf.ok.ends {c : Cf} (h : c.ok) {s : Sg} (h1 : -1 ≤ s.t) (h2 : s.t < c.n) (h3 : 0 ≤ s.win) (h4 : s.win ≤ 100000) : 0 ≤ c.end s ∧ c.end s ≤ 100001000 := by
  obtain ⟨w1, w2⟩ := h.width h1 h2
  unfold Cf.end
  refine ⟨Int.mul_nonneg (by omega) (by omega), ?_⟩
  have : (s.win + 1) * c.width s.t ≤ (100000 + 1) * 1000 := Int.mul_le_mul (by omega) w2 (by omega) (by omega)
  omega
theorem Cf.ok.keeps {c : Cf} (h : c.ok) {t : Int} (h1 : -1 ≤ t) (h2 : t < c.n) : 0 ≤ c.keep t ∧ c.keep t ≤ 1000 := by
  unfold Cf.keep
  split
  · exact h.ke
  · exact h.K _ (by omega)

set_option maxHeartbeats 1000000 in
theorem end_any {B : Nat} {w : World} {p : Nat} {m : RM} {tv nv pv gv kv : Value} (h : RefAt B w p m tv nv pv gv kv) (hc : m.c.ok) (s : Sg) (ht1 : -1 ≤ s.t) (ht2 : s.t < m.c.n) (hs1 : 0 ≤ s.win) (hs2 : s.win ≤ 100000) :
    Calls Tryz.prog 65 #[.pointer (some ⟨p, 0, none⟩), .agg #[.int .i64 s.t, .int .i64 s.ser, .int .i64 s.win]] w fun e w' => e = .returned (.int .i64 (m.c.end s)) ∧ Below w.heap.size w w' := by
  obtain ⟨a, cap, htv⟩ := row_slice h.trow
  subst htv
  have hp := h.lt
  have hts := TS.of_owns h.trow
  obtain ⟨c0, c1, c2, c3, c4, c5, c6⟩ := h.conf
  obtain ⟨hw1, hw2⟩ := hc.width ht1 ht2
  obtain ⟨he1, he2⟩ := hc.ends ht1 ht2 hs1 hs2
  have hn4 := hc.n4
  have HW : Hid (widthOf m.c.wi m.c.W s.t = m.c.width s.t) := rfl
  have HR : Hid (m.c.end s = (s.win + 1) * m.c.width s.t) := rfl
  rw [unhide HR] at he1 he2
  have b1 := rlast w (.cells #[.int .i64 s.t, .int .i64 s.ser, .int .i64 s.win] 126)
  have bz := rsize w (.cells #[.int .i64 s.t, .int .i64 s.ser, .int .i64 s.win] 126)
  have hbw : Below w.heap.size w (w.alloc (.cells #[.int .i64 s.t, .int .i64 s.ser, .int .i64 s.win] 126)) := (Below.refl _ _).alloc (Nat.le_refl _) _
  have z2 : (w.alloc (.cells #[.int .i64 s.t, .int .i64 s.ser, .int .i64 s.win] 126)).cell? ⟨w.heap.size, 2, none⟩ = some (.int .i64 s.win) := by rw [rcell b1]; rfl
  have Z2 := hide z2
  have BZ := hide bz
  have hne : Nonempty (Later (w.heap.size + 1) (w.alloc (.cells #[.int .i64 s.t, .int .i64 s.ser, .int .i64 s.win] 126))) := Later.some _ _
  have hlc := fun (u : Later (w.heap.size + 1) (w.alloc (.cells #[.int .i64 s.t, .int .i64 s.ser, .int .i64 s.win] 126))) b o h => u.cell b o h
  clear h b1 bz z2
  go_enter Tryz.func65, Tryz.ntmps65
  go_wp2_with fail
  refine wp_region_later (w.heap.size + 1) (by kernel_rfl) (by kernel_rfl) ?_
  repeat (go_big_quiet_step (first | (go_at_call 27; exact Calls.later (by simp) (Width_any _ _ _ _ _ _ _ _ cap m.c.F m.c.W m.c.K s.t ht1 ht2 hn4 _ (hts.below (hbw.trans (Below.mono (Subtype.property _) (by omega))))))))
  refine wpQuiet_nil ?_
  rintro ⟨w1, hb1⟩
  clear hlc hne
  have z2 : w1.cell? ⟨w.heap.size, 2, none⟩ = some (.int .i64 s.win) := (hb1.cell (p := ⟨w.heap.size, 2, none⟩) (show w.heap.size < w.heap.size + 1 by omega)).trans (unhide Z2)
  dsimp only
  rw [unhide HW]
  go_wp2_with fail
  go_ret
  exact ⟨ret_int (unhide HR).symm, hbw.trans (hb1.mono (by omega))⟩

set_option maxHeartbeats 1000000 in
theorem keep_any {B : Nat} {w : World} {p : Nat} {m : RM} {tv nv pv gv kv : Value} (h : RefAt B w p m tv nv pv gv kv) (hc : m.c.ok) (t : Int) (ht1 : -1 ≤ t) (ht2 : t < m.c.n) :
    Calls Tryz.prog 125 #[.pointer (some ⟨p, 0, none⟩), .int .i64 t] w fun e w' => e = .returned (.int .i64 (m.c.keep t)) ∧ w' = w := by
  obtain ⟨a, cap, htv⟩ := row_slice h.trow
  subst htv
  have hp := h.lt
  have hts := TS.of_owns h.trow
  obtain ⟨c0, c1, c2, c3, c4, c5, c6⟩ := h.conf
  have hn4 := hc.n4
  by_cases e : t = -1
  · subst e
    have HR : Hid (m.c.keep (-1) = m.c.ke) := rfl
    clear h
    go_enter Tryz.func125, Tryz.ntmps125
    go_wp2
    go_ret
    exact ⟨ret_int (unhide HR).symm, rfl⟩
  · obtain ⟨i, rfl⟩ := Int.eq_ofNat_of_zero_le (show 0 ≤ t by omega)
    have HR : Hid (m.c.keep (i : Int) = m.c.K i) := by show _ = _; unfold Cf.keep; rw [if_neg e]; simp
    obtain ⟨b, off, rfl, hbz, hcc⟩ := hts (by omega)
    obtain ⟨h1, h2, h3⟩ := hcc i (by omega)
    have hne : ((i : Int) == -1) = false := beq_eq_false_iff_ne.2 e
    clear h hcc e
    go_enter Tryz.func125, Tryz.ntmps125
    go_wp2
    go_ret
    exact ⟨ret_int (unhide HR).symm, rfl⟩
end Go.Proofs.YtgadceofpbfleaaGreat

/- Walks: cell. -/
namespace Go.Proofs.YtgadceofpbfleaaGreat
open Go.RowKit
set_option linter.unusedVariables false

theorem box3 (w : World) (o1 o2 o3 : Obj) : (((w.alloc o1).alloc o2).alloc o3).heap[w.heap.size]? = some o1 ∧ (((w.alloc o1).alloc o2).alloc o3).heap[w.heap.size + 1]? = some o2 ∧ (((w.alloc o1).alloc o2).alloc o3).heap[w.heap.size + 2]? = some o3 ∧ Below w.heap.size w (((w.alloc o1).alloc o2).alloc o3) ∧ (((w.alloc o1).alloc o2).alloc o3).heap.size = w.heap.size + 3 := by
  obtain ⟨h1, h2, h3, h4⟩ := box2 w o1 o2
  refine ⟨(Below.heap_alloc _ _ _ (by rw [h4]; omega)).trans h1, (Below.heap_alloc _ _ _ (by rw [h4]; omega)).trans h2, by have := rlast ((w.alloc o1).alloc o2) o3; rw [h4] at this; exact this, h3.alloc h3.size _, by rw [rsize, h4]⟩

theorem below_set {n : Nat} {a w : World} {g i : Nat} {v : Value} (h : Below n a w) (hg : n ≤ g) : Below n a (w.setCell ⟨g, i, none⟩ v) := h.setCell (p := ⟨g, i, none⟩) hg v
theorem step_same {c : Cf} {s : Sg} {A : Cl} {x : Nm} (h : segOf c s.t x = s) : stepCl c s A x = addCl A x.val := by simp [stepCl, h]
theorem step_other {c : Cf} {s : Sg} {A : Cl} {x : Nm} (h : ¬ segOf c s.t x = s) : stepCl c s A x = A := by simp [stepCl, h]
theorem add_first {A : Cl} {v : Int} (h : A.cnt = 0) : addCl A v = ⟨A.cnt + 1, A.sum + v, v, v⟩ := by simp [addCl, h]
theorem add_ll {A : Cl} {v : Int} (h : ¬ A.cnt = 0) (h1 : v < A.mn) (h2 : A.mx < v) : addCl A v = ⟨A.cnt + 1, A.sum + v, v, v⟩ := by simp [addCl, h1, h2]
theorem add_ln {A : Cl} {v : Int} (h : ¬ A.cnt = 0) (h1 : v < A.mn) (h2 : ¬ A.mx < v) : addCl A v = ⟨A.cnt + 1, A.sum + v, v, A.mx⟩ := by simp [addCl, h, h1, h2]
theorem add_nl {A : Cl} {v : Int} (h : ¬ A.cnt = 0) (h1 : ¬ v < A.mn) (h2 : A.mx < v) : addCl A v = ⟨A.cnt + 1, A.sum + v, A.mn, v⟩ := by simp [addCl, h, h1, h2]
theorem add_nn {A : Cl} {v : Int} (h : ¬ A.cnt = 0) (h1 : ¬ v < A.mn) (h2 : ¬ A.mx < v) : addCl A v = ⟨A.cnt + 1, A.sum + v, A.mn, A.mx⟩ := by simp [addCl, h, h1, h2]

theorem set4 {w : World} {g : Nat} {a b c d : Value} {t : TypeId} {fr : Nat × Nat} (h : w.heap[g]? = some (.cells #[a, b, c, d] t fr)) (x y z u : Value) : ((((w.setCell ⟨g, 0, none⟩ x).setCell ⟨g, 1, none⟩ y).setCell ⟨g, 2, none⟩ z).setCell ⟨g, 3, none⟩ u).heap[g]? = some (.cells #[x, y, z, u] t fr) :=
  rset (i := 3) (rset (i := 2) (rset (i := 1) (rset (i := 0) h x) y) z) u
def clObj (A : Cl) : Obj := .cells #[.int .i64 A.cnt, .int .i64 A.sum, .int .i32 A.mn, .int .i32 A.mx] 91 (0, 0)

theorem cl_23 {w : World} {g : Nat} {A : Cl} (h : w.heap[g]? = some (clObj A)) (c s a b : Int) : ((((w.setCell ⟨g, 2, none⟩ (.int .i32 a)).setCell ⟨g, 3, none⟩ (.int .i32 b)).setCell ⟨g, 0, none⟩ (.int .i64 c)).setCell ⟨g, 1, none⟩ (.int .i64 s)).heap[g]? = some (clObj ⟨c, s, a, b⟩) :=
  rset (i := 1) (rset (i := 0) (rset (i := 3) (rset (i := 2) h (.int .i32 a)) (.int .i32 b)) (.int .i64 c)) (.int .i64 s)
theorem cl_2 {w : World} {g : Nat} {A : Cl} (h : w.heap[g]? = some (clObj A)) (c s a : Int) : (((w.setCell ⟨g, 2, none⟩ (.int .i32 a)).setCell ⟨g, 0, none⟩ (.int .i64 c)).setCell ⟨g, 1, none⟩ (.int .i64 s)).heap[g]? = some (clObj ⟨c, s, a, A.mx⟩) :=
  rset (i := 1) (rset (i := 0) (rset (i := 2) h (.int .i32 a)) (.int .i64 c)) (.int .i64 s)
theorem cl_3 {w : World} {g : Nat} {A : Cl} (h : w.heap[g]? = some (clObj A)) (c s b : Int) : (((w.setCell ⟨g, 3, none⟩ (.int .i32 b)).setCell ⟨g, 0, none⟩ (.int .i64 c)).setCell ⟨g, 1, none⟩ (.int .i64 s)).heap[g]? = some (clObj ⟨c, s, A.mn, b⟩) :=
  rset (i := 1) (rset (i := 0) (rset (i := 3) h (.int .i32 b)) (.int .i64 c)) (.int .i64 s)
theorem cl_0 {w : World} {g : Nat} {A : Cl} (h : w.heap[g]? = some (clObj A)) (c s : Int) : ((w.setCell ⟨g, 0, none⟩ (.int .i64 c)).setCell ⟨g, 1, none⟩ (.int .i64 s)).heap[g]? = some (clObj ⟨c, s, A.mn, A.mx⟩) :=
  rset (i := 1) (rset (i := 0) h (.int .i64 c)) (.int .i64 s)

set_option maxHeartbeats 1000000 in
theorem cell_any {B : Nat} {w : World} {p : Nat} {m : RM} {tv nv pv gv kv : Value} (h : RefAt B w p m tv nv pv gv kv) (hc : m.c.ok) (hnl : m.nums.length ≤ 1000000000) (hno : ∀ x ∈ m.nums, x.ok) (s : Sg) (ht1 : -1 ≤ s.t) (ht2 : s.t < m.c.n) :
    Calls Tryz.prog 66 #[.pointer (some ⟨p, 0, none⟩), .agg #[.int .i64 s.t, .int .i64 s.ser, .int .i64 s.win]] w fun e w' => e = .returned (.agg #[.int .i64 (cellOf m.c s m.nums).cnt, .int .i64 (cellOf m.c s m.nums).sum, .int .i32 (cellOf m.c s m.nums).mn, .int .i32 (cellOf m.c s m.nums).mx]) ∧ Below w.heap.size w w' := by
  obtain ⟨b1, b2, b3, hbw, bz⟩ := box3 w (.cells #[.int .i64 s.t, .int .i64 s.ser, .int .i64 s.win] 126) (.cells #[.int .i64 0, .int .i64 0, .int .i32 0, .int .i32 0] 91) (.cells #[.int .i64 0, .int .i64 0, .int .i32 0, .int .i32 0] 91)
  have B1 := hide b1
  have B2 := hide b2
  have B3 := hide b3
  have BZ := hide bz
  have H := hide h
  obtain ⟨an, cn, hnv⟩ := row_slice h.nrow
  subst hnv
  clear h b1 b2 b3 bz
  go_enter Tryz.func66, Tryz.ntmps66
  go_wp2_with fail
  generalize hW : (((w.alloc (.cells #[.int .i64 s.t, .int .i64 s.ser, .int .i64 s.win] 126)).alloc (.cells #[.int .i64 0, .int .i64 0, .int .i32 0, .int .i32 0] 91)).alloc (.cells #[.int .i64 0, .int .i64 0, .int .i32 0, .int .i32 0] 91)) = W at *
  go_loopw [6, 7, 8] (fun y _ _ wr => ∃ (k : Nat), k ≤ m.nums.length ∧ y = .int .i64 k ∧ wr.heap[w.heap.size + 2]? = some (clObj (cellOf m.c s (m.nums.take k))) ∧ Below (w.heap.size + 2) W wr) (fun y _ _ _ => m.nums.length - (intOf y).toNat)
  case atStart => exact ⟨0, Nat.zero_le _, rfl, unhide B3, Below.refl _ _⟩
  case round =>
    obtain ⟨k, hk, rfl, hA, hb⟩ := hrel
    have hbw' : Below w.heap.size w wr := hbw.trans (hb.mono (by omega))
    have hr := (unhide H).later hbw'
    have hpr := hr.lt
    obtain ⟨r7, r8, r9, r10, r11, r12, r13⟩ := hr.rest
    have hsz : w.heap.size + 2 < wr.heap.size := by have := hb.size; rw [unhide BZ] at this; omega
    have hz0 : w.heap.size < wr.heap.size := by omega
    have HRR := hide hr
    have HB := hide hb
    have HBW := hide hbw'
    have hpw := (unhide H).lt
    clear hr hb hbw' r7 r9 r10 r11 r12 r13
    by_cases hlt : k < m.nums.length
    · obtain ⟨x, hx⟩ := rget_of_lt hlt
      have hxo := hno x (List.mem_of_getElem? hx)
      obtain ⟨g, cap', hv, _, hgz, x0, x1, x2⟩ := nm_at (unhide HRR).nrow hx
      cases hv
      have hstep := cellOf_take m.c s m.nums k x hx
      have hAb := cellOf_bound (c := m.c) (s := s) (nums := m.nums.take k) (fun y hy => hno y (List.mem_of_mem_take hy))
      have hkn : (k : Int) < m.nums.length := by omega
      rw [List.length_take, Nat.min_eq_left hk] at hAb
      generalize cellOf m.c s (m.nums.take k) = A at *
      obtain ⟨a1, a2, a3, a4⟩ := hAb
      have HX := hide hx
      have HSTEP := hide hstep
      have HAA := hide hA
      obtain ⟨o1, o2, o3, o4, o5, o6⟩ := hxo
      have hSB : Below wr.heap.size wr (wr.alloc (.cells #[.int .i64 x.ser, .int .i64 x.tm, .int .i32 x.val] 155)) := (Below.refl _ _).alloc (Nat.le_refl _) _
      have HSEG := hide (segment_any ((unhide HRR).later hSB) hc s.t ht1 ht2 x ⟨o1, o2, o3, o4, o5, o6⟩)
      have s0 : wr.cell? ⟨w.heap.size, 0, none⟩ = some (.int .i64 s.t) := by rw [rcell ((unhide HB).block w.heap.size (by omega) |>.trans (unhide B1))]; rfl
      clear hx hstep hA
      go_wp2_with fail
      refine (unhide HSEG).mono ?_
      rintro e w1 ⟨rfl, hb1⟩
      have q := (unhide HB).block w.heap.size (by omega) |>.trans (unhide B1)
      have q1 := (hb1.block w.heap.size (by rw [rsize]; omega)).trans ((Below.heap_alloc _ _ _ (by omega)).trans q)
      have q2 := (hb1.block (w.heap.size + 2) (by rw [rsize]; omega)).trans ((Below.heap_alloc _ _ _ (by omega)).trans (unhide HAA))
      have q3 := (hb1.block wr.heap.size (by rw [rsize]; omega)).trans (rlast _ _)
      have hw1 : wr.heap.size < w1.heap.size := by have := hb1.size; rw [rsize] at this; omega
      have hw2 : w.heap.size < w1.heap.size := by omega
      have hw3 : w.heap.size + 1 + 1 < w1.heap.size := by omega
      have t0 : w1.cell? ⟨w.heap.size, 0, none⟩ = some (.int .i64 s.t) := by rw [rcell q1]; rfl
      have t1 : w1.cell? ⟨w.heap.size, 1, none⟩ = some (.int .i64 s.ser) := by rw [rcell q1]; rfl
      have t2 : w1.cell? ⟨w.heap.size, 2, none⟩ = some (.int .i64 s.win) := by rw [rcell q1]; rfl
      have n2 : w1.cell? ⟨wr.heap.size, 2, none⟩ = some (.int .i32 x.val) := by rw [rcell q3]; rfl
      have d0 : w1.cell? ⟨w.heap.size + 1 + 1, 0, none⟩ = some (.int .i64 A.cnt) := by rw [rcell q2]; rfl
      have d1 : w1.cell? ⟨w.heap.size + 1 + 1, 1, none⟩ = some (.int .i64 A.sum) := by rw [rcell q2]; rfl
      have d2 : w1.cell? ⟨w.heap.size + 1 + 1, 2, none⟩ = some (.int .i32 A.mn) := by rw [rcell q2]; rfl
      have d3 : w1.cell? ⟨w.heap.size + 1 + 1, 3, none⟩ = some (.int .i32 A.mx) := by rw [rcell q2]; rfl
      have df : ∀ j, w1.frozen? ⟨w.heap.size + 1 + 1, j, none⟩ = false := fun j => rfree q2 j
      have FIN := hide q2
      have FINB := hide (show Below (w.heap.size + 2) W w1 from (unhide HB).trans ((hSB.mono (by omega)).trans (hb1.mono (by rw [rsize]; omega))))
      clear q q1 q2 q3 hb1 s0 x0 x1 x2 hSB r8 hgz
      by_cases hsame : segOf m.c s.t x = s
      · have HS := hide (step_same (A := A) hsame)
        have hh := hsame
        clear HSEG
        rw [hsame]
        clear hsame hh
        by_cases hz : A.cnt = 0
        · have HAD := hide (add_first (v := x.val) hz)
          have hzb : (A.cnt == 0) = true := by simp [hz]
          clear hz
          go_wp2_with fail
          go_roundw
          case rel =>
            refine ⟨k + 1, by omega, by go_num, ?_, ?_⟩
            · rw [unhide HSTEP, unhide HS, unhide HAD]
              exact (Below.heap_alloc _ _ _ (by simp [World.setCell]; omega)).trans (cl_23 (unhide FIN) _ _ _ _)
            · refine Below.alloc ?_ (by simp [World.setCell]; omega) _
              repeat (refine below_set ?_ (show w.heap.size + 2 ≤ w.heap.size + 1 + 1 by omega))
              exact unhide FINB
          case measure => simp [intOf]; omega
        · have hzb : (A.cnt == 0) = false := by simp [hz]
          by_cases h1 : x.val < A.mn
          · by_cases h2 : A.mx < x.val
            · have HAD := hide (add_ll (v := x.val) hz h1 h2)
              clear hz
              go_wp2_with fail
              go_roundw
              case rel =>
                refine ⟨k + 1, by omega, by go_num, ?_, ?_⟩
                · rw [unhide HSTEP, unhide HS, unhide HAD]
                  exact (Below.heap_alloc _ _ _ (by simp [World.setCell]; omega)).trans (cl_23 (unhide FIN) _ _ _ _)
                · refine Below.alloc ?_ (by simp [World.setCell]; omega) _
                  repeat (refine below_set ?_ (show w.heap.size + 2 ≤ w.heap.size + 1 + 1 by omega))
                  exact unhide FINB
              case measure => simp [intOf]; omega
            · have HAD := hide (add_ln (v := x.val) hz h1 h2)
              clear hz
              go_wp2_with fail
              go_roundw
              case rel =>
                refine ⟨k + 1, by omega, by go_num, ?_, ?_⟩
                · rw [unhide HSTEP, unhide HS, unhide HAD]
                  exact (Below.heap_alloc _ _ _ (by simp [World.setCell]; omega)).trans (cl_2 (unhide FIN) _ _ _)
                · refine Below.alloc ?_ (by simp [World.setCell]; omega) _
                  repeat (refine below_set ?_ (show w.heap.size + 2 ≤ w.heap.size + 1 + 1 by omega))
                  exact unhide FINB
              case measure => simp [intOf]; omega
          · by_cases h2 : A.mx < x.val
            · have HAD := hide (add_nl (v := x.val) hz h1 h2)
              clear hz
              go_wp2_with fail
              go_roundw
              case rel =>
                refine ⟨k + 1, by omega, by go_num, ?_, ?_⟩
                · rw [unhide HSTEP, unhide HS, unhide HAD]
                  exact (Below.heap_alloc _ _ _ (by simp [World.setCell]; omega)).trans (cl_3 (unhide FIN) _ _ _)
                · refine Below.alloc ?_ (by simp [World.setCell]; omega) _
                  repeat (refine below_set ?_ (show w.heap.size + 2 ≤ w.heap.size + 1 + 1 by omega))
                  exact unhide FINB
              case measure => simp [intOf]; omega
            · have HAD := hide (add_nn (v := x.val) hz h1 h2)
              clear hz
              go_wp2_with fail
              go_roundw
              case rel =>
                refine ⟨k + 1, by omega, by go_num, ?_, ?_⟩
                · rw [unhide HSTEP, unhide HS, unhide HAD]
                  exact (Below.heap_alloc _ _ _ (by simp [World.setCell]; omega)).trans (cl_0 (unhide FIN) _ _)
                · refine Below.alloc ?_ (by simp [World.setCell]; omega) _
                  repeat (refine below_set ?_ (show w.heap.size + 2 ≤ w.heap.size + 1 + 1 by omega))
                  exact unhide FINB
              case measure => simp [intOf]; omega
      · have HS := hide (step_other (A := A) hsame)
        have hd := sg_ne hsame
        clear hsame
        rcases hd with hd | ⟨hd0, hd⟩ | ⟨hd0, hd1, hd⟩
        all_goals
          go_wp2_with fail
          go_roundw
          case rel => exact ⟨k + 1, by omega, by go_num, by rw [unhide HSTEP, unhide HS]; exact (Below.heap_alloc _ _ _ (by omega)).trans (unhide FIN), (unhide FINB).alloc (by omega) _⟩
          case measure => simp [intOf]; omega
    · have hkk : k = m.nums.length := by omega
      rw [hkk, List.take_length] at hA
      have d0 : wr.cell? ⟨w.heap.size + 1 + 1, 0, none⟩ = some (.int .i64 (cellOf m.c s m.nums).cnt) := by rw [rcell hA]; rfl
      have d1 : wr.cell? ⟨w.heap.size + 1 + 1, 1, none⟩ = some (.int .i64 (cellOf m.c s m.nums).sum) := by rw [rcell hA]; rfl
      have d2 : wr.cell? ⟨w.heap.size + 1 + 1, 2, none⟩ = some (.int .i32 (cellOf m.c s m.nums).mn) := by rw [rcell hA]; rfl
      have d3 : wr.cell? ⟨w.heap.size + 1 + 1, 3, none⟩ = some (.int .i32 (cellOf m.c s m.nums).mx) := by rw [rcell hA]; rfl
      have q := (unhide HB).block (w.heap.size + 1) (by omega) |>.trans (unhide B2)
      have d4 : wr.cell? ⟨w.heap.size + 1, 0, none⟩ = some (.int .i64 0) := by rw [rcell q]; rfl
      have d5 : wr.cell? ⟨w.heap.size + 1, 1, none⟩ = some (.int .i64 0) := by rw [rcell q]; rfl
      have d6 : wr.cell? ⟨w.heap.size + 1, 2, none⟩ = some (.int .i32 0) := by rw [rcell q]; rfl
      have d7 : wr.cell? ⟨w.heap.size + 1, 3, none⟩ = some (.int .i32 0) := by rw [rcell q]; rfl
      have df : ∀ j, wr.frozen? ⟨w.heap.size + 1, j, none⟩ = false := fun j => rfree q j
      have Q1 := hide q
      clear q hA
      go_wp2_with fail
      have hf := set4 (unhide Q1) (.int .i64 (cellOf m.c s m.nums).cnt) (.int .i64 (cellOf m.c s m.nums).sum) (.int .i32 (cellOf m.c s m.nums).mn) (.int .i32 (cellOf m.c s m.nums).mx)
      refine bodyPost_ret (v := .agg #[.int .i64 (cellOf m.c s m.nums).cnt, .int .i64 (cellOf m.c s m.nums).sum, .int .i32 (cellOf m.c s m.nums).mn, .int .i32 (cellOf m.c s m.nums).mx]) (results_cell_row Tryz.results66 _ _ (w.heap.size + 1) _ _ _ _ rfl hf Tryz.underlying91 rfl (by kernel_rfl)) rfl ⟨rfl, ?_⟩
      refine (unhide HBW).trans ?_
      repeat (refine below_set ?_ (show w.heap.size ≤ w.heap.size + 1 by omega))
      exact Below.refl _ _
end Go.Proofs.YtgadceofpbfleaaGreat

/- Walks: segments. -/
namespace Go.Proofs.YtgadceofpbfleaaGreat
open Go.RowKit
set_option linter.unusedVariables false

theorem Tryz.infoSegment : (Tryz.prog.info? 126).map (fun i => (i.zero, i.size, i.bytes)) = some (some (.agg #[.int .i64 0, .int .i64 0, .int .i64 0]), 3, 24) := by kernel_rfl

theorem flat_row {α : Type} {f : α → List Value} {w : World} {base : Nat} {e : TypeId} {k : Nat} {v : Value} {l : List α} {a : α} (h : w.ownsRow base e k v (l.length + 1) (l.flatMap f ++ f a)) : w.ownsRow base e k v (l ++ [a]).length ((l ++ [a]).flatMap f) := by
  rw [flat_snoc, List.length_append]; exact h

theorem push_sg {w : World} {ops : Array Oper} {rest : List Oper} {o : Oper} {a : Act} {Q : Exit → Act → World → Prop} (hgd : o.guard = none) (s x : Operand)
    (ho : o.op = .call { callee := .builtin .append, args := #[s, x], argTypes := #[80, 80] }) (base : Nat) (v : Value) (l : List Sg) (f : Sg) (hs : a.eval s = v) (hown : w.ownsRow base 126 3 v l.length (l.flatMap sgV))
    (B1 : Nat) (hx : a.eval x = .slice (some ⟨B1, 0, none⟩) 1 1) (hB1 : w.heap[B1]? = some (.cells #[.int .i64 f.t, .int .i64 f.ser, .int .i64 f.win] 126 (0, 0))) (hl : l.length ≤ 1099511627776) (hbase : base ≤ w.heap.size)
    (h : ∀ g cap w', w'.ownsRow base 126 3 (.slice (some ⟨g, 0, none⟩) (l.length + 1) cap) (l ++ [f]).length ((l ++ [f]).flatMap sgV) → w'.ownsRow base 126 3 v l.length (l.flatMap sgV) → w.grownBy w' v.ownBlock → (v.ownBlock = some g ∨ g = w.heap.size) → g < w'.heap.size → wpList Tryz.prog ops Q rest (a.put o.dst (.slice (some ⟨g, 0, none⟩) (l.length + 1) cap)) w') : wpList Tryz.prog ops Q (o :: rest) a w :=
  wpList_append_keep hgd s x 80 ho base 126 _ 3 24 Tryz.underlying80 Tryz.infoSegment rfl (by decide) v l.length (l.flatMap sgV) hs hown ⟨B1, 0, none⟩ 1 1 [.int .i64 f.t, .int .i64 f.ser, .int .i64 f.win] hx rfl
    (World.news_of_block (cs := #[.int .i64 f.t, .int .i64 f.ser, .int .i64 f.win]) hB1) (by intro u hu; simp at hu; rcases hu with rfl | rfl | rfl <;> rfl) (by decide) (by simp only [maxLen]; omega) (by omega) hbase
    fun g cap w' h1 h2 h3 h4 h5 => h g cap w' (flat_row h1) h2 h3 h4 h5

theorem addSg_in {l : List Sg} {s : Sg} (h : s ∈ l) : addSg l s = l := by simp [addSg, h]
theorem addSg_out {l : List Sg} {s : Sg} (h : ¬ s ∈ l) : addSg l s = l ++ [s] := by simp [addSg, h]
theorem segsTier_zero (c : Cf) (t : Int) (nums : List Nm) (l : List Sg) : segsTier c t (nums.take 0) l = l := by simp [segsTier]
theorem memB_cases (s : Sg) (l : List Sg) : (memB s l = true ∧ s ∈ l) ∨ (memB s l = false ∧ ¬ s ∈ l) := by
  by_cases h : s ∈ l
  · exact .inl ⟨memB_true h, h⟩
  · exact .inr ⟨memB_false h, h⟩

set_option maxHeartbeats 2000000 in
theorem segments_any {B : Nat} {w : World} {p : Nat} {m : RM} {tv nv pv gv kv : Value} (h : RefAt B w p m tv nv pv gv kv) (hc : m.c.ok) (hnl : m.nums.length ≤ 1000000000) (hno : ∀ x ∈ m.nums, x.ok) :
    Calls Tryz.prog 70 #[.pointer (some ⟨p, 0, none⟩)] w fun e w' => ∃ v, e = .returned v ∧ w'.ownsRow w.heap.size 126 3 v (segsOf m.c m.nums).length ((segsOf m.c m.nums).flatMap sgV) ∧ Below w.heap.size w w' := by
  have H := hide h
  obtain ⟨an, cn, hnv⟩ := row_slice h.nrow
  subst hnv
  obtain ⟨at_, ct, htv⟩ := row_slice h.trow
  subst htv
  have hn4 := hc.n4
  have hpw := h.lt
  clear h
  go_enter Tryz.func70, Tryz.ntmps70
  go_wp2_with fail
  go_loopw [3, 4, 5, 6, 7] (fun v y _ _ _ wr => ∃ (k : Nat), k ≤ m.c.n + 1 ∧ y = .int .i64 ((k : Int) - 1) ∧ wr.ownsRow w.heap.size 126 3 v (segsTo m.c m.nums k).length ((segsTo m.c m.nums k).flatMap sgV) ∧ Below w.heap.size w wr) (fun _ y _ _ _ _ => m.c.n + 1 - (intOf y + 1).toNat)
  case atStart => exact ⟨0, Nat.zero_le _, rfl, World.ownsRow_nil _ _ _ _, Below.refl _ _⟩
  case round =>
    obtain ⟨k, hk, rfl, hv, hb⟩ := hrel
    have hr := (unhide H).later hb
    have hpr := hr.lt
    obtain ⟨c0, c1, c2, c3, c4, c5, c6⟩ := hr.conf
    clear c0 c1 c2 c3 c4 c5
    by_cases hlt : k < m.c.n + 1
    · have hkn : (k : Int) - 1 < m.c.n := by omega
      have hk1 : -1 ≤ (k : Int) - 1 := by omega
      obtain ⟨a0, cap0, hv0⟩ := row_slice hv
      have HV := hide hv
      have HB := hide hb
      clear hr hv hb
      subst hv0
      go_wp2_with fail
      go_loopw [3, 5, 6, 7] (fun v y _ _ wq => ∃ (i : Nat), i ≤ m.nums.length ∧ y = .int .i64 i ∧ wq.ownsRow w.heap.size 126 3 v (segsTier m.c ((k : Int) - 1) (m.nums.take i) (segsTo m.c m.nums k)).length ((segsTier m.c ((k : Int) - 1) (m.nums.take i) (segsTo m.c m.nums k)).flatMap sgV) ∧ Below w.heap.size w wq) (fun _ y _ _ _ => m.nums.length - (intOf y).toNat)
      case atStart => exact ⟨0, Nat.zero_le _, rfl, by rw [segsTier_zero]; exact unhide HV, unhide HB⟩
      case round =>
        clear HV HB c6 hpr
        obtain ⟨i, hi, rfl, hv, hb⟩ := hrel
        have hr := (unhide H).later hb
        have hpr := hr.lt
        obtain ⟨r7, r8, r9, r10, r11, r12, r13⟩ := hr.rest
        clear r7 r9 r10 r11 r12 r13
        obtain ⟨a1, cap1, hv1⟩ := row_slice hv
        have HV := hide hv
        have HB := hide hb
        have HRR := hide hr
        by_cases hil : i < m.nums.length
        · obtain ⟨x, hx⟩ := rget_of_lt hil
          have hxo := hno x (List.mem_of_getElem? hx)
          obtain ⟨g, cap', hvn, _, hgz, x0, x1, x2⟩ := nm_at hr.nrow hx
          cases hvn
          have hstep := segsTier_take m.c ((k : Int) - 1) m.nums (segsTo m.c m.nums k) i x hx
          have hLl : (segsTier m.c ((k : Int) - 1) (m.nums.take i) (segsTo m.c m.nums k)).length ≤ 6000000000 := by
            have h1 := segsTier_len m.c ((k : Int) - 1) (m.nums.take i) (segsTo m.c m.nums k)
            have h2 := segsTo_len m.c m.nums k
            have h3 : k * m.nums.length ≤ 5 * 1000000000 := Nat.mul_le_mul (by omega) hnl
            rw [List.length_take] at h1
            omega
          have hin : (i : Int) < m.nums.length := by omega
          have HSEG := hide (segment_any hr hc ((k : Int) - 1) hk1 hkn x hxo)
          have HSTEP := hide hstep
          subst hv1
          generalize segsTier m.c ((k : Int) - 1) (m.nums.take i) (segsTo m.c m.nums k) = L at *
          clear hx hstep hxo hr hv hb
          go_wp2_with fail
          refine (unhide HSEG).mono ?_
          rintro e w1 ⟨rfl, hb1⟩
          generalize segOf m.c ((k : Int) - 1) x = sg at *
          have hbo : ∀ o, Below wr.heap.size wr (w1.alloc o) := fun o => hb1.alloc hb1.size _
          have HAM := hide (among_any w.heap.size L _ sg _ (by omega) (row_later (unhide HV) (hbo (.cells #[.int .i64 sg.t, .int .i64 sg.ser, .int .i64 sg.win] 126))))
          rcases memB_cases sg L with ⟨hm, hm2⟩ | ⟨hm, hm2⟩
          · rw [hm] at HAM
            have HAD := hide (addSg_in hm2)
            clear hm hm2
            go_wp2_with fail
            refine (unhide HAM).mono ?_
            rintro e w2 ⟨rfl, hb2⟩
            have FB := hide ((unhide HB).trans (((hbo (.cells #[.int .i64 sg.t, .int .i64 sg.ser, .int .i64 sg.win] 126)).trans (hb2.mono (hbo _).size)).mono (unhide HB).size))
            have FV := hide (row_later (unhide HV) ((hbo (.cells #[.int .i64 sg.t, .int .i64 sg.ser, .int .i64 sg.win] 126)).trans (hb2.mono (hbo _).size)))
            go_wp2_with fail
            go_roundw
            case rel => exact ⟨i + 1, by omega, by go_num, by rw [unhide HSTEP, unhide HAD]; exact unhide FV, unhide FB⟩
            case measure => simp [intOf]; omega
          · rw [hm] at HAM
            have HAD := hide (addSg_out hm2)
            clear hm hm2
            go_wp2_with fail
            refine (unhide HAM).mono ?_
            rintro e w2 ⟨rfl, hb2⟩
            have FB := hide ((unhide HB).trans (((hbo (.cells #[.int .i64 sg.t, .int .i64 sg.ser, .int .i64 sg.win] 126)).trans (hb2.mono (hbo _).size)).mono (unhide HB).size))
            have FV := hide (row_later (unhide HV) ((hbo (.cells #[.int .i64 sg.t, .int .i64 sg.ser, .int .i64 sg.win] 126)).trans (hb2.mono (hbo _).size)))
            have q := (hb2.block w1.heap.size (by rw [rsize]; omega)).trans (rlast _ _)
            have z0 : w2.cell? ⟨w1.heap.size, 0, none⟩ = some (.int .i64 sg.t) := by rw [rcell q]; rfl
            have z1 : w2.cell? ⟨w1.heap.size, 1, none⟩ = some (.int .i64 sg.ser) := by rw [rcell q]; rfl
            have z2 : w2.cell? ⟨w1.heap.size, 2, none⟩ = some (.int .i64 sg.win) := by rw [rcell q]; rfl
            have hsz : w.heap.size ≤ w2.heap.size := (unhide FB).size
            clear q
            go_wp2_with (first
              | (at_builtin; refine push_sg rfl _ _ rfl w.heap.size _ L sg rfl ((unhide FV).alloc _) w2.heap.size rfl (rlast _ _) ?hll ?hbb ?_; (case hll => omega); (case hbb => (rw [rsize]; omega)); intro g2 cap2 w3 hown hold hgrow hat hlt3)
              | fail)
            have hb3 : Below w.heap.size w w3 := ((unhide FB).alloc hsz _).grown hgrow (by simp; omega) (fun k hk => ((unhide FV).lt k hk).1)
            exact ⟨⟨i + 1, by omega, by go_num, by rw [unhide HSTEP, unhide HAD]; exact hown, hb3⟩, by simp [intOf]; omega⟩
        · have hii : i = m.nums.length := by omega
          have HFV := hv
          rw [hii, List.take_length, ← segsTo_succ] at HFV
          have HFV := hide HFV
          subst hv1
          clear hv hb hr
          go_wp2_with fail
          go_roundw
          case rel => exact ⟨k + 1, by omega, by go_num, unhide HFV, unhide HB⟩
          case measure => simp [intOf]; omega
    · have hkk : k = m.c.n + 1 := by omega
      have HFV := hv
      rw [hkk] at HFV
      have HFV := hide HFV
      have HB := hide hb
      obtain ⟨a1, cap1, hv1⟩ := row_slice hv
      subst hv1
      clear hv hb hr
      go_wp2_with fail
      go_ret
      exact ⟨_, rfl, unhide HFV, unhide HB⟩
end Go.Proofs.YtgadceofpbfleaaGreat

/- Walks: used, tight. -/
namespace Go.Proofs.YtgadceofpbfleaaGreat
open Go.RowKit
set_option linter.unusedVariables false

theorem segsOf_len {c : Cf} {nums : List Nm} (hc : c.n ≤ 4) (h : nums.length ≤ 1000000000) : (segsOf c nums).length ≤ 5000000000 := by
  have h2 := segsTo_len c nums (c.n + 1)
  have h3 : (c.n + 1) * nums.length ≤ 5 * 1000000000 := Nat.mul_le_mul (by omega) h
  unfold segsOf; omega
theorem used_small {c : Cf} {nums : List Nm} {rc l : List Sg} (hl : l.length ≤ 5000000000) (hn : nums.length ≤ 1000000000) (h : ∀ x ∈ nums, x.ok) : 0 ≤ usedOf c nums rc l ∧ usedOf c nums rc l ≤ 6000000000000000000 := by
  have h1 := usedOf_bound (c := c) (nums := nums) (rc := rc) (l := l) h
  have h2 : (l.length : Int) * (nums.length + 2) ≤ 5000000000 * 1000000002 := Int.mul_le_mul (by omega) (by omega) (by omega) (by omega)
  omega
theorem use_gone {c : Cf} {nums : List Nm} {rc : List Sg} {s : Sg} (h : s ∈ rc) : useOf c nums rc s = 0 := by simp [useOf, h]
theorem use_raw {c : Cf} {nums : List Nm} {rc : List Sg} {s : Sg} (h : ¬ s ∈ rc) (h1 : s.t = -1) : useOf c nums rc s = (cellOf c s nums).cnt := by simp [useOf, h, h1]
theorem use_tier {c : Cf} {nums : List Nm} {rc : List Sg} {s : Sg} (h : ¬ s ∈ rc) (h1 : ¬ s.t = -1) : useOf c nums rc s = 2 := by simp [useOf, h, h1]
theorem segs_tier {c : Cf} {nums : List Nm} {s : Sg} (h : s ∈ segsOf c nums) : -1 ≤ s.t ∧ s.t < c.n := by
  have := mem_segsOf.1 h; exact ⟨this.1, this.2.1⟩

set_option maxHeartbeats 2000000 in
theorem used_any {B : Nat} {w : World} {p : Nat} {m : RM} {tv nv pv gv kv : Value} (h : RefAt B w p m tv nv pv gv kv) (hc : m.c.ok) (hnl : m.nums.length ≤ 1000000000) (hgl : m.gone.length ≤ 1000000000000) (hno : ∀ x ∈ m.nums, x.ok) :
    Calls Tryz.prog 68 #[.pointer (some ⟨p, 0, none⟩)] w fun e w' => e = .returned (.int .i64 m.used) ∧ Below w.heap.size w w' := by
  have H := hide h
  have HS := hide (segments_any h hc hnl hno)
  have hsl := segsOf_len (nums := m.nums) hc.n4 hnl
  have HU : Hid (m.used = usedOf m.c m.nums m.gone (segsOf m.c m.nums)) := rfl
  have HM := hide (fun s hs => segs_tier (c := m.c) (nums := m.nums) (s := s) hs)
  obtain ⟨ag, cg, hgv⟩ := row_slice h.grow
  subst hgv
  clear h
  generalize segsOf m.c m.nums = L at *
  go_enter Tryz.func68, Tryz.ntmps68
  go_wp2_with fail
  refine (unhide HS).mono ?_
  rintro e w0 ⟨v, rfl, hv0, hb0⟩
  obtain ⟨al, cl, hvl⟩ := row_slice hv0
  subst hvl
  have HV0 := hide hv0
  have HB0 := hide hb0
  clear hv0 hb0
  go_wp2_with fail
  go_loopw [3, 5, 6, 7] (fun z y _ _ wr => ∃ (i : Nat), i ≤ L.length ∧ y = .int .i64 i ∧ z = .int .i64 (usedOf m.c m.nums m.gone (L.take i)) ∧ Below w0.heap.size w0 wr) (fun _ y _ _ _ => L.length - (intOf y).toNat)
  case atStart => exact ⟨0, Nat.zero_le _, rfl, by simp [usedOf], Below.refl _ _⟩
  case round =>
    obtain ⟨i, hi, rfl, rfl, hb⟩ := hrel
    have hbw : Below w.heap.size w wr := (unhide HB0).trans (hb.mono (unhide HB0).size)
    have hr := (unhide H).later hbw
    have hpr := hr.lt
    obtain ⟨r7, r8, r9, r10, r11, r12, r13⟩ := hr.rest
    clear r7 r8 r9 r11 r12 r13
    have HB := hide hb
    have HBW := hide hbw
    have HRR := hide hr
    have HV := hide (row_later (unhide HV0) hb)
    clear hr hbw hb
    by_cases hil : i < L.length
    · obtain ⟨s, hs⟩ := rget_of_lt hil
      obtain ⟨g, cap', hvn, _, hgz, x0, x1, x2⟩ := sg_at (unhide HV) hs
      injection hvn with hvn1 hvn2 hvn3
      subst hvn1
      have hstep := usedOf_take m.c m.nums m.gone L i s hs
      obtain ⟨hst1, hst2⟩ := unhide HM s (List.mem_of_getElem? hs)
      have hin : (i : Int) < L.length := by omega
      have hub := used_small (c := m.c) (rc := m.gone) (l := L.take i) (by rw [List.length_take]; omega) hnl hno
      have hcb := cellOf_bound (c := m.c) (s := s) (nums := m.nums) hno
      obtain ⟨hub1, hub2⟩ := hub
      obtain ⟨hcb1, hcb2, -⟩ := hcb
      have HSTEP := hide hstep
      clear hs hstep hvn2 hvn3
      generalize usedOf m.c m.nums m.gone (L.take i) = u at *
      have hne : Nonempty (Later wr.heap.size wr) := Later.some _ _
      have hlc := fun (u : Later wr.heap.size wr) b o h => u.cell b o h
      have HAM := hide (fun (u : Later wr.heap.size wr) => among_any B m.gone _ s u.1 (by omega) ((unhide HRR).later u.2).grow)
      have HCE := hide (fun (w1 : World) (hb1 : Below wr.heap.size wr w1) => cell_any ((unhide HRR).later hb1) hc hnl hno s hst1 hst2)
      rcases memB_cases s m.gone with ⟨hm, hm2⟩ | ⟨hm, hm2⟩
      · rw [hm] at HAM
        have HAD := hide (use_gone (c := m.c) (nums := m.nums) hm2)
        clear hm hm2
        go_wp2_with fail
        refine wp_region_later wr.heap.size (by kernel_rfl) (by kernel_rfl) ?_
        repeat (go_big_quiet_step (first | (go_at_call 67; exact Calls.later (Nat.le_refl _) (unhide HAM _))))
        refine wpQuiet_nil ?_
        rintro ⟨w1, hb1⟩
        clear hlc hne
        have z0 := (hb1.cell (p := ⟨g, i * 3, none⟩) hgz).trans x0
        have z1 := (hb1.cell (p := ⟨g, i * 3 + 1, none⟩) hgz).trans x1
        have z2 := (hb1.cell (p := ⟨g, i * 3 + 2, none⟩) hgz).trans x2
        dsimp only
        go_wp2_with fail
        refine (unhide HCE w1 hb1).mono ?_
        rintro e w2 ⟨rfl, hb2⟩
        have FB := hide ((unhide HB).trans ((hb1.trans (hb2.mono hb1.size)).mono (unhide HB).size))
        go_wp2_with fail
        go_roundw
        case rel => exact ⟨i + 1, by omega, by go_num, by rw [unhide HSTEP, unhide HAD]; simp, (unhide FB).alloc (unhide FB).size _⟩
        case measure => simp [intOf]; omega
      · rw [hm] at HAM
        by_cases hraw : s.t = -1
        · have HAD := hide (use_raw (c := m.c) (nums := m.nums) hm2 hraw)
          have hrb : (s.t == -1) = true := by simp [hraw]
          clear hm hm2 hraw
          go_wp2_with fail
          refine wp_region_later wr.heap.size (by kernel_rfl) (by kernel_rfl) ?_
          repeat (go_big_quiet_step (first | (go_at_call 67; exact Calls.later (Nat.le_refl _) (unhide HAM _))))
          refine wpQuiet_nil ?_
          rintro ⟨w1, hb1⟩
          clear hlc hne
          have z0 := (hb1.cell (p := ⟨g, i * 3, none⟩) hgz).trans x0
          have z1 := (hb1.cell (p := ⟨g, i * 3 + 1, none⟩) hgz).trans x1
          have z2 := (hb1.cell (p := ⟨g, i * 3 + 2, none⟩) hgz).trans x2
          dsimp only
          go_wp2_with fail
          refine (unhide HCE w1 hb1).mono ?_
          rintro e w2 ⟨rfl, hb2⟩
          have FB := hide ((unhide HB).trans ((hb1.trans (hb2.mono hb1.size)).mono (unhide HB).size))
          have y0 := ((hb1.trans (hb2.mono hb1.size)).cell (p := ⟨g, i * 3, none⟩) hgz).trans x0
          have hg2 : g < w2.heap.size := Nat.lt_of_lt_of_le hgz (hb1.trans (hb2.mono hb1.size)).size
          clear z0 z1 z2 x0 x1 x2
          generalize cellOf m.c s m.nums = A at *
          go_wp2_with fail
          go_roundw
          case rel => exact ⟨i + 1, by omega, by go_num, by rw [unhide HSTEP, unhide HAD], (unhide FB).alloc (unhide FB).size _⟩
          case measure => simp [intOf]; omega
        · have HAD := hide (use_tier (c := m.c) (nums := m.nums) hm2 hraw)
          have hrb : (s.t == -1) = false := by simp [hraw]
          clear hm hm2 hraw
          go_wp2_with fail
          refine wp_region_later wr.heap.size (by kernel_rfl) (by kernel_rfl) ?_
          repeat (go_big_quiet_step (first | (go_at_call 67; exact Calls.later (Nat.le_refl _) (unhide HAM _))))
          refine wpQuiet_nil ?_
          rintro ⟨w1, hb1⟩
          clear hlc hne
          have z0 := (hb1.cell (p := ⟨g, i * 3, none⟩) hgz).trans x0
          have z1 := (hb1.cell (p := ⟨g, i * 3 + 1, none⟩) hgz).trans x1
          have z2 := (hb1.cell (p := ⟨g, i * 3 + 2, none⟩) hgz).trans x2
          dsimp only
          go_wp2_with fail
          refine (unhide HCE w1 hb1).mono ?_
          rintro e w2 ⟨rfl, hb2⟩
          have FB := hide ((unhide HB).trans ((hb1.trans (hb2.mono hb1.size)).mono (unhide HB).size))
          have y0 := ((hb1.trans (hb2.mono hb1.size)).cell (p := ⟨g, i * 3, none⟩) hgz).trans x0
          have hg2 : g < w2.heap.size := Nat.lt_of_lt_of_le hgz (hb1.trans (hb2.mono hb1.size)).size
          clear z0 z1 z2 x0 x1 x2
          generalize cellOf m.c s m.nums = A at *
          go_wp2_with fail
          go_roundw
          case rel => exact ⟨i + 1, by omega, by go_num, by rw [unhide HSTEP, unhide HAD], (unhide FB).alloc (unhide FB).size _⟩
          case measure => simp [intOf]; omega
    · have hii : i = L.length := by omega
      have hU := unhide HU
      have hx : usedOf m.c m.nums m.gone (L.take i) = m.used := by rw [hii, List.take_length, hU]
      rw [hx]
      go_wp2_with fail
      go_ret
      exact ⟨rfl, unhide HBW⟩

def RM.tight (m : RM) : Bool := decide (3 * m.c.qu < 4 * m.used)

set_option maxHeartbeats 1000000 in
theorem tight_any {B : Nat} {w : World} {p : Nat} {m : RM} {tv nv pv gv kv : Value} (h : RefAt B w p m tv nv pv gv kv) (hc : m.c.ok) (hnl : m.nums.length ≤ 100000000) (hgl : m.gone.length ≤ 1000000000000) (hno : ∀ x ∈ m.nums, x.ok) (hu : m.used ≤ 1000000000000000000) :
    Calls Tryz.prog 69 #[.pointer (some ⟨p, 0, none⟩)] w fun e w' => e = .returned (.bool m.tight) ∧ Below w.heap.size w w' := by
  have HU := hide (used_any h hc (by omega) hgl hno)
  have hu0 : 0 ≤ m.used := (used_small (c := m.c) (rc := m.gone) (segsOf_len hc.n4 (by omega)) (by omega) hno).1
  have hp := h.lt
  obtain ⟨c0, c1, c2, c3, c4, c5, c6⟩ := h.conf
  have hq := hc.qu
  have HT : Hid (m.tight = decide (3 * m.c.qu < 4 * m.used)) := rfl
  clear h c0 c1 c2 c3 c4 c6
  go_enter Tryz.func69, Tryz.ntmps69
  go_wp2_with fail
  refine (unhide HU).mono ?_
  rintro e w1 ⟨rfl, hb1⟩
  have d5 := (hb1.cell (p := ⟨p, 5, none⟩) hp).trans c5
  generalize m.used = u at *
  go_wp2_with fail
  go_ret
  exact ⟨ret_bool (by rw [unhide HT]), hb1⟩
end Go.Proofs.YtgadceofpbfleaaGreat
