import Derived.Test.YtgadceofpbfleaaGreatQRef3

/- Walks: Stats. -/
namespace Go.Proofs.YtgadceofpbfleaaGreat
open Go.RowKit
set_option linter.unusedVariables false

/-- segments that are held, waiting, published, reclaimed. -/
structure Sc where
  held : Int
  wait : Int
  pub : Int
  gone : Int
def stepSc (m : RM) (a : Sc) (s : Sg) : Sc :=
  if s ∈ m.gone then ⟨a.held, a.wait, a.pub, a.gone + 1⟩ else if s.t = -1 then ⟨a.held + 1, a.wait, a.pub, a.gone⟩ else if s ∈ m.pub then ⟨a.held, a.wait, a.pub + 1, a.gone⟩ else ⟨a.held, a.wait + 1, a.pub, a.gone⟩
def scOf (m : RM) (l : List Sg) : Sc := l.foldl (stepSc m) ⟨0, 0, 0, 0⟩
theorem scOf_take (m : RM) (l : List Sg) (i : Nat) (s : Sg) (h : l[i]? = some s) : scOf m (l.take (i + 1)) = stepSc m (scOf m (l.take i)) s := by
  obtain ⟨hl, hx⟩ := List.getElem?_eq_some_iff.1 h
  rw [List.take_succ_eq_append_getElem hl, hx]; simp [scOf]
theorem stepSc_gone {m : RM} {a : Sc} {s : Sg} (h : s ∈ m.gone) : stepSc m a s = ⟨a.held, a.wait, a.pub, a.gone + 1⟩ := by simp [stepSc, h]
theorem stepSc_held {m : RM} {a : Sc} {s : Sg} (h : ¬ s ∈ m.gone) (h1 : s.t = -1) : stepSc m a s = ⟨a.held + 1, a.wait, a.pub, a.gone⟩ := by simp [stepSc, h, h1]
theorem stepSc_pub {m : RM} {a : Sc} {s : Sg} (h : ¬ s ∈ m.gone) (h1 : ¬ s.t = -1) (h2 : s ∈ m.pub) : stepSc m a s = ⟨a.held, a.wait, a.pub + 1, a.gone⟩ := by simp [stepSc, h, h1, h2]
theorem stepSc_wait {m : RM} {a : Sc} {s : Sg} (h : ¬ s ∈ m.gone) (h1 : ¬ s.t = -1) (h2 : ¬ s ∈ m.pub) : stepSc m a s = ⟨a.held, a.wait + 1, a.pub, a.gone⟩ := by simp [stepSc, h, h1, h2]
def Sc.ok (a : Sc) (n : Int) : Prop := 0 ≤ a.held ∧ a.held ≤ n ∧ 0 ≤ a.wait ∧ a.wait ≤ n ∧ 0 ≤ a.pub ∧ a.pub ≤ n ∧ 0 ≤ a.gone ∧ a.gone ≤ n
theorem scOf_bounds (m : RM) : ∀ (l : List Sg) (a : Sc) (n : Nat), a.ok n → (l.foldl (stepSc m) a).ok (n + l.length)
  | [], a, n, h => by simpa using h
  | s :: r, a, n, h => by
    have := scOf_bounds m r (stepSc m a s) (n + 1) (by
      unfold Sc.ok at h ⊢
      unfold stepSc
      split
      · dsimp only; omega
      · split
        · dsimp only; omega
        · split
          · dsimp only; omega
          · dsimp only; omega)
    rw [List.foldl_cons, List.length_cons]
    unfold Sc.ok at this ⊢
    omega
theorem scOf_bound (m : RM) (l : List Sg) : (scOf m l).ok l.length := by
  have := scOf_bounds m l ⟨0, 0, 0, 0⟩ 0 (by simp [Sc.ok])
  simpa [scOf] using this

def RM.tightI (m : RM) : Int := if m.tight then 1 else 0
theorem tightI_true {m : RM} (h : m.tight = true) : m.tightI = 1 := by simp [RM.tightI, h]
theorem tightI_false {m : RM} (h : m.tight = false) : m.tightI = 0 := by simp [RM.tightI, h]

def stObj (now used ti ep : Int) (A : Sc) : Obj := .cells #[.int .i64 now, .int .i64 used, .int .i64 ti, .int .i64 ep, .int .i64 A.held, .int .i64 A.wait, .int .i64 A.pub, .int .i64 A.gone] 77 (0, 0)
theorem st_cells {w : World} {g : Nat} {now used ti ep : Int} {A : Sc} (h : w.heap[g]? = some (stObj now used ti ep A)) :
    w.cell? ⟨g, 0, none⟩ = some (.int .i64 now) ∧ w.cell? ⟨g, 1, none⟩ = some (.int .i64 used) ∧ w.cell? ⟨g, 2, none⟩ = some (.int .i64 ti) ∧ w.cell? ⟨g, 3, none⟩ = some (.int .i64 ep) ∧ w.cell? ⟨g, 4, none⟩ = some (.int .i64 A.held) ∧ w.cell? ⟨g, 5, none⟩ = some (.int .i64 A.wait) ∧ w.cell? ⟨g, 6, none⟩ = some (.int .i64 A.pub) ∧ w.cell? ⟨g, 7, none⟩ = some (.int .i64 A.gone) ∧ ∀ j, w.frozen? ⟨g, j, none⟩ = false := by
  refine ⟨?_, ?_, ?_, ?_, ?_, ?_, ?_, ?_, fun j => rfree h j⟩ <;> rw [rcell h] <;> rfl
theorem st_4 {w : World} {g : Nat} {now used ti ep : Int} {A : Sc} (h : w.heap[g]? = some (stObj now used ti ep A)) (v : Int) : (w.setCell ⟨g, 4, none⟩ (.int .i64 v)).heap[g]? = some (stObj now used ti ep ⟨v, A.wait, A.pub, A.gone⟩) := rset (i := 4) h (.int .i64 v)
theorem st_5 {w : World} {g : Nat} {now used ti ep : Int} {A : Sc} (h : w.heap[g]? = some (stObj now used ti ep A)) (v : Int) : (w.setCell ⟨g, 5, none⟩ (.int .i64 v)).heap[g]? = some (stObj now used ti ep ⟨A.held, v, A.pub, A.gone⟩) := rset (i := 5) h (.int .i64 v)
theorem st_6 {w : World} {g : Nat} {now used ti ep : Int} {A : Sc} (h : w.heap[g]? = some (stObj now used ti ep A)) (v : Int) : (w.setCell ⟨g, 6, none⟩ (.int .i64 v)).heap[g]? = some (stObj now used ti ep ⟨A.held, A.wait, v, A.gone⟩) := rset (i := 6) h (.int .i64 v)
theorem st_7 {w : World} {g : Nat} {now used ti ep : Int} {A : Sc} (h : w.heap[g]? = some (stObj now used ti ep A)) (v : Int) : (w.setCell ⟨g, 7, none⟩ (.int .i64 v)).heap[g]? = some (stObj now used ti ep ⟨A.held, A.wait, A.pub, v⟩) := rset (i := 7) h (.int .i64 v)

theorem kept_set {f : Nat → Prop} {a w : World} {g i : Nat} {v : Value} (h : Kept f a w) (hg : f g) : Kept f a (w.setCell ⟨g, i, none⟩ v) := h.setCell (p := ⟨g, i, none⟩) (fun _ => hg) v
theorem kept_below {f : Nat → Prop} {a w w' : World} (h : Kept f a w) (hb : Below w.heap.size w w') : Kept f a w' := h.trans (Kept.of_below (f := f) hb) (fun _ _ h => h)

theorem set8 {w : World} {g : Nat} {a b c d e f i j : Value} {t : TypeId} {fr : Nat × Nat} (h : w.heap[g]? = some (.cells #[a, b, c, d, e, f, i, j] t fr)) (x0 x1 x2 x3 x4 x5 x6 x7 : Value) : ((((((((w.setCell ⟨g, 0, none⟩ x0).setCell ⟨g, 1, none⟩ x1).setCell ⟨g, 2, none⟩ x2).setCell ⟨g, 3, none⟩ x3).setCell ⟨g, 4, none⟩ x4).setCell ⟨g, 5, none⟩ x5).setCell ⟨g, 6, none⟩ x6).setCell ⟨g, 7, none⟩ x7).heap[g]? = some (.cells #[x0, x1, x2, x3, x4, x5, x6, x7] t fr) := by
  have h0 : (w.setCell ⟨g, 0, none⟩ x0).heap[g]? = some (.cells #[x0, b, c, d, e, f, i, j] t fr) := rset (i := 0) h x0
  have h1 : ((w.setCell ⟨g, 0, none⟩ x0).setCell ⟨g, 1, none⟩ x1).heap[g]? = some (.cells #[x0, x1, c, d, e, f, i, j] t fr) := rset (i := 1) h0 x1
  have h2 : (((w.setCell ⟨g, 0, none⟩ x0).setCell ⟨g, 1, none⟩ x1).setCell ⟨g, 2, none⟩ x2).heap[g]? = some (.cells #[x0, x1, x2, d, e, f, i, j] t fr) := rset (i := 2) h1 x2
  have h3 : ((((w.setCell ⟨g, 0, none⟩ x0).setCell ⟨g, 1, none⟩ x1).setCell ⟨g, 2, none⟩ x2).setCell ⟨g, 3, none⟩ x3).heap[g]? = some (.cells #[x0, x1, x2, x3, e, f, i, j] t fr) := rset (i := 3) h2 x3
  have h4 : (((((w.setCell ⟨g, 0, none⟩ x0).setCell ⟨g, 1, none⟩ x1).setCell ⟨g, 2, none⟩ x2).setCell ⟨g, 3, none⟩ x3).setCell ⟨g, 4, none⟩ x4).heap[g]? = some (.cells #[x0, x1, x2, x3, x4, f, i, j] t fr) := rset (i := 4) h3 x4
  have h5 : ((((((w.setCell ⟨g, 0, none⟩ x0).setCell ⟨g, 1, none⟩ x1).setCell ⟨g, 2, none⟩ x2).setCell ⟨g, 3, none⟩ x3).setCell ⟨g, 4, none⟩ x4).setCell ⟨g, 5, none⟩ x5).heap[g]? = some (.cells #[x0, x1, x2, x3, x4, x5, i, j] t fr) := rset (i := 5) h4 x5
  have h6 : (((((((w.setCell ⟨g, 0, none⟩ x0).setCell ⟨g, 1, none⟩ x1).setCell ⟨g, 2, none⟩ x2).setCell ⟨g, 3, none⟩ x3).setCell ⟨g, 4, none⟩ x4).setCell ⟨g, 5, none⟩ x5).setCell ⟨g, 6, none⟩ x6).heap[g]? = some (.cells #[x0, x1, x2, x3, x4, x5, x6, j] t fr) := rset (i := 6) h5 x6
  have h7 : ((((((((w.setCell ⟨g, 0, none⟩ x0).setCell ⟨g, 1, none⟩ x1).setCell ⟨g, 2, none⟩ x2).setCell ⟨g, 3, none⟩ x3).setCell ⟨g, 4, none⟩ x4).setCell ⟨g, 5, none⟩ x5).setCell ⟨g, 6, none⟩ x6).setCell ⟨g, 7, none⟩ x7).heap[g]? = some (.cells #[x0, x1, x2, x3, x4, x5, x6, x7] t fr) := rset (i := 7) h6 x7
  exact h7

/-- the loop of Stats, from behind the list of segments. -/
def stRel (w w3 : World) (m : RM) (L : List Sg) (sB : Nat) (u ti : Int) (i : Nat) (wr : World) : Prop :=
  wr.heap[sB]? = some (stObj m.now u ti m.epoch (scOf m (L.take i))) ∧ Kept (fun k => k = sB) w3 wr

set_option maxHeartbeats 4000000 in
theorem stats_any {B : Nat} {w : World} {p : Nat} {m : RM} {tv nv pv gv kv : Value} (h : RefAt B w p m tv nv pv gv kv) (hc : m.c.ok) (hnl : m.nums.length ≤ 100000000) (hgl : m.gone.length ≤ 1000000000000) (hpl : m.pub.length ≤ 1000000000000) (hno : ∀ x ∈ m.nums, x.ok) (hu : m.used ≤ 1000000000000000000) :
    Calls Tryz.prog 38 #[.pointer (some ⟨p, 0, none⟩)] w fun e w' => e = .returned (.agg #[.int .i64 m.now, .int .i64 m.used, .int .i64 m.tightI, .int .i64 m.epoch, .int .i64 (scOf m (segsOf m.c m.nums)).held, .int .i64 (scOf m (segsOf m.c m.nums)).wait, .int .i64 (scOf m (segsOf m.c m.nums)).pub, .int .i64 (scOf m (segsOf m.c m.nums)).gone]) ∧ Below w.heap.size w w' := by
  have H := hide h
  have b1 := rlast w (.cells #[.int .i64 0, .int .i64 0, .int .i64 0, .int .i64 0, .int .i64 0, .int .i64 0, .int .i64 0, .int .i64 0] 77)
  have hbw : Below w.heap.size w (w.alloc (.cells #[.int .i64 0, .int .i64 0, .int .i64 0, .int .i64 0, .int .i64 0, .int .i64 0, .int .i64 0, .int .i64 0] 77)) := (Below.refl _ _).alloc (Nat.le_refl _) _
  have hsl := segsOf_len (nums := m.nums) hc.n4 (by omega)
  obtain ⟨ag, cg, hgv⟩ := row_slice h.grow
  subst hgv
  obtain ⟨ap, cp, hpv⟩ := row_slice h.prow
  subst hpv
  have hp := h.lt
  generalize hW : (w.alloc (.cells #[.int .i64 0, .int .i64 0, .int .i64 0, .int .i64 0, .int .i64 0, .int .i64 0, .int .i64 0, .int .i64 0] 77)) = W at *
  have hWz : W.heap.size = w.heap.size + 1 := by rw [← hW, rsize]
  have HU := hide (used_any (h.later hbw) hc (by omega) hgl hno)
  have HW := hide hW
  have B1 := hide b1
  have HWZ := hide hWz
  clear h b1 hW hWz
  have HGO : Hid (∀ (v : Value), True) := fun _ => trivial
  go_enter Tryz.func38, Tryz.ntmps38
  go_wp2_with fail
  rw [unhide HW]
  refine (unhide HU).mono ?_
  rintro e w1 ⟨rfl, hb1⟩
  have HT := hide (tight_any ((unhide H).later (hbw.trans (hb1.mono hbw.size))) hc hnl hgl hno hu)
  have HB1 := hide hb1
  clear hb1
  cases hti : m.tight
  · rw [hti] at HT
    have HTI := hide (tightI_false hti)
    go_wp2_with fail
    refine (unhide HT).mono ?_
    rintro e w2 ⟨rfl, hb2⟩
    have hbw2 : Below w.heap.size w w2 := (hbw.trans ((unhide HB1).mono hbw.size)).trans (hb2.mono (hbw.trans ((unhide HB1).mono hbw.size)).size)
    have hr := (unhide H).later hbw2
    obtain ⟨r7, r8, r9, r10, r11, r12, r13⟩ := hr.rest
    clear r8 r9 r10 r11 r13
    have HRR := hide hr
    have hp2 := hr.lt
    clear hr
    go_wp2_with fail
    go_region
    go_wp2_with fail
    have hX0 : (w2.alloc (stObj m.now m.used 0 m.epoch ⟨0, 0, 0, 0⟩)).drew.heap[w2.heap.size]? = some (stObj m.now m.used m.tightI m.epoch ⟨0, 0, 0, 0⟩) := by rw [unhide HTI]; exact rlast w2 _
    have hX1 : Below w2.heap.size w2 (w2.alloc (stObj m.now m.used 0 m.epoch ⟨0, 0, 0, 0⟩)).drew := ((Below.refl _ _).alloc (Nat.le_refl _) _).drew
    have hX2 : w2.heap.size < (w2.alloc (stObj m.now m.used 0 m.epoch ⟨0, 0, 0, 0⟩)).drew.heap.size := by show _ < (w2.alloc _).heap.size; rw [rsize]; omega
    change Calls Tryz.prog _ _ (w2.alloc (stObj m.now m.used 0 m.epoch ⟨0, 0, 0, 0⟩)).drew _
    generalize (w2.alloc (stObj m.now m.used 0 m.epoch ⟨0, 0, 0, 0⟩)).drew = X at *
    generalize hL : segsOf m.c m.nums = L at *
    have HSG := hide (segments_any ((unhide HRR).later hX1) hc (by omega) hno)
    rw [hL] at HSG
    have hzb := (hX1.block w.heap.size (by have := hbw2.size; have := hb2.size; have := (unhide HB1).size; have := unhide HWZ; omega)).trans ((hb2.block w.heap.size (by have := (unhide HB1).size; have := unhide HWZ; omega)).trans (((unhide HB1).block w.heap.size (by have := unhide HWZ; omega)).trans (unhide B1)))
    have hw2w : w.heap.size < w2.heap.size := by have := hb2.size; have := (unhide HB1).size; have := unhide HWZ; omega
    have HZB := hide hzb
    have HL := hide hL
    have HX0 := hide hX0
    clear hzb hX0 hL hb2 HU HT r7 r12
    refine (unhide HSG).mono ?_
    rintro e w3 ⟨v, rfl, hv3, hb3⟩
    obtain ⟨al, cl, hvl⟩ := row_slice hv3
    subst hvl
    have HV3 := hide hv3
    have HB3 := hide hb3
    have hbX : Below w.heap.size w X := hbw2.trans (hX1.mono hbw2.size)
    have hb03 : Below w.heap.size w w3 := hbX.trans (hb3.mono hbX.size)
    have hX3 := hb3.size
    have HZ3 := hide ((hb3.block w.heap.size (by omega)).trans (unhide HZB))
    clear hv3 hb3
    go_wp2_with fail
    go_loopw [7, 8, 9] (fun y _ _ wr => ∃ (i : Nat), i ≤ L.length ∧ y = .int .i64 i ∧ stRel w w3 m L w2.heap.size m.used m.tightI i wr) (fun y _ _ _ => L.length - (intOf y).toNat)
    case atStart => exact ⟨0, Nat.zero_le _, rfl, ((unhide HB3).block _ hX2).trans (unhide HX0), Kept.refl _ _⟩
    case round =>
      obtain ⟨i, hi, rfl, hblk, hk⟩ := hrel
      have hbr : Below w.heap.size w wr := hb03.trans (hk.below hb03.size (fun k e => by rw [e]; omega))
      have hr := (unhide H).later hbr
      have hpr := hr.lt
      obtain ⟨q7, q8, q9, q10, q11, q12, q13⟩ := hr.rest
      clear q7 q8 q11 q12 q13
      have hzs : w2.heap.size < wr.heap.size := lt_of_heap hblk
      have hv := owns_kept (unhide HV3) hk (fun k hk2 e => by
        have := ((unhide HV3).lt k hk2).1
        omega)
      have HRR2 := hide hr
      have HV := hide hv
      have HK := hide hk
      have HBR := hide hbr
      clear hr hv hk hbr
      by_cases hil : i < L.length
      · obtain ⟨s, hs⟩ := rget_of_lt hil
        obtain ⟨g, cap', hvn, hgb, hgz, x0, x1, x2⟩ := sg_at (unhide HV) hs
        injection hvn with hvn1 hvn2 hvn3
        subst hvn1
        have hstep := scOf_take m L i s hs
        have hin : (i : Int) < L.length := by omega
        have hab := scOf_bound m (L.take i)
        rw [List.length_take, Nat.min_eq_left hi] at hab
        generalize scOf m (L.take i) = A at *
        obtain ⟨a1, a2, a3, a4, a5, a6, a7, a8⟩ := hab
        have HSTEP := hide hstep
        have HBLK := hide hblk
        clear hs hstep hvn2 hvn3 hblk
        have hne : Nonempty (Later wr.heap.size wr) := Later.some _ _
        have hlc := fun (u : Later wr.heap.size wr) b o h => u.cell b o h
        have HAP := hide (fun (u : Later wr.heap.size wr) => among_any B m.pub _ s u.1 (by omega) ((unhide HRR2).later u.2).prow)
        have HAG := hide (fun (w1 : World) (hb1 : Below wr.heap.size wr w1) (u : Later w1.heap.size w1) => among_any B m.gone _ s u.1 (by omega) ((unhide HRR2).later (hb1.trans (u.2.mono hb1.size))).grow)
        rcases memB_cases s m.gone with ⟨hm, hm2⟩ | ⟨hm, hm2⟩
        · rw [hm] at HAG
          have HAD := hide (stepSc_gone (m := m) (a := A) hm2)
          clear hm hm2
          go_wp2_with fail
          refine wp_region_later wr.heap.size (by kernel_rfl) (by kernel_rfl) ?_
          repeat (go_big_quiet_step (first | (go_at_call 67; exact Calls.later (Nat.le_refl _) (unhide HAP _))))
          refine wpQuiet_nil ?_
          rintro ⟨w4, hb4⟩
          clear hlc hne
          have y10 := (hb4.cell (p := ⟨p, 10, none⟩) hpr).trans q10
          have y0 := (hb4.cell (p := ⟨g, i * 3, none⟩) hgz).trans x0
          have y1 := (hb4.cell (p := ⟨g, i * 3 + 1, none⟩) hgz).trans x1
          have y2 := (hb4.cell (p := ⟨g, i * 3 + 2, none⟩) hgz).trans x2
          have hg4 : g < w4.heap.size := Nat.lt_of_lt_of_le hgz hb4.size
          have hp4 : p < w4.heap.size := Nat.lt_of_lt_of_le hpr hb4.size
          have hne : Nonempty (Later w4.heap.size w4) := Later.some _ _
          have hlc := fun (u : Later w4.heap.size w4) b o h => u.cell b o h
          dsimp only
          go_wp2_with fail
          refine wp_region_later w4.heap.size (by kernel_rfl) (by kernel_rfl) ?_
          repeat (go_big_quiet_step (first | (go_at_call 67; exact Calls.later (Nat.le_refl _) (unhide HAG w4 hb4 _))))
          refine wpQuiet_nil ?_
          rintro ⟨w5, hb5⟩
          clear hlc hne
          have hb45 : Below wr.heap.size wr w5 := hb4.trans (hb5.mono hb4.size)
          have z0 := (hb5.cell (p := ⟨g, i * 3, none⟩) hg4).trans y0
          have hg5 : g < w5.heap.size := Nat.lt_of_lt_of_le hg4 hb5.size
          have FBK := hide ((hb45.block _ hzs).trans (unhide HBLK))
          have FK := hide (kept_below (unhide HK) hb45)
          obtain ⟨e0, e1, e2, e3, e4, e5, e6, e7, e8⟩ := st_cells (unhide FBK)
          clear y0 y1 y2 x0 x1 x2 y10
          dsimp only
          go_wp2_with fail
          go_roundw
          case rel => exact ⟨i + 1, by omega, by go_num, by rw [unhide HSTEP, unhide HAD]; exact st_7 (unhide FBK) _, kept_set (unhide FK) rfl⟩
          case measure => simp [intOf]; omega
        · rw [hm] at HAG
          by_cases hraw : s.t = -1
          · have HAD := hide (stepSc_held (m := m) (a := A) hm2 hraw)
            have hrb : (s.t == -1) = true := by simp [hraw]
            clear hm hm2 hraw
            go_wp2_with fail
            refine wp_region_later wr.heap.size (by kernel_rfl) (by kernel_rfl) ?_
            repeat (go_big_quiet_step (first | (go_at_call 67; exact Calls.later (Nat.le_refl _) (unhide HAP _))))
            refine wpQuiet_nil ?_
            rintro ⟨w4, hb4⟩
            clear hlc hne
            have y10 := (hb4.cell (p := ⟨p, 10, none⟩) hpr).trans q10
            have y0 := (hb4.cell (p := ⟨g, i * 3, none⟩) hgz).trans x0
            have y1 := (hb4.cell (p := ⟨g, i * 3 + 1, none⟩) hgz).trans x1
            have y2 := (hb4.cell (p := ⟨g, i * 3 + 2, none⟩) hgz).trans x2
            have hg4 : g < w4.heap.size := Nat.lt_of_lt_of_le hgz hb4.size
            have hp4 : p < w4.heap.size := Nat.lt_of_lt_of_le hpr hb4.size
            have hne : Nonempty (Later w4.heap.size w4) := Later.some _ _
            have hlc := fun (u : Later w4.heap.size w4) b o h => u.cell b o h
            dsimp only
            go_wp2_with fail
            refine wp_region_later w4.heap.size (by kernel_rfl) (by kernel_rfl) ?_
            repeat (go_big_quiet_step (first | (go_at_call 67; exact Calls.later (Nat.le_refl _) (unhide HAG w4 hb4 _))))
            refine wpQuiet_nil ?_
            rintro ⟨w5, hb5⟩
            clear hlc hne
            have hb45 : Below wr.heap.size wr w5 := hb4.trans (hb5.mono hb4.size)
            have z0 := (hb5.cell (p := ⟨g, i * 3, none⟩) hg4).trans y0
            have hg5 : g < w5.heap.size := Nat.lt_of_lt_of_le hg4 hb5.size
            have FBK := hide ((hb45.block _ hzs).trans (unhide HBLK))
            have FK := hide (kept_below (unhide HK) hb45)
            obtain ⟨e0, e1, e2, e3, e4, e5, e6, e7, e8⟩ := st_cells (unhide FBK)
            clear y0 y1 y2 x0 x1 x2 y10
            dsimp only
            go_wp2_with fail
            go_roundw
            case rel => exact ⟨i + 1, by omega, by go_num, by rw [unhide HSTEP, unhide HAD]; exact st_4 (unhide FBK) _, kept_set (unhide FK) rfl⟩
            case measure => simp [intOf]; omega
          · have hrb : (s.t == -1) = false := by simp [hraw]
            rcases memB_cases s m.pub with ⟨hp1, hp2⟩ | ⟨hp1, hp2⟩
            · rw [hp1] at HAP
              have HAD := hide (stepSc_pub (m := m) (a := A) hm2 hraw hp2)
              clear hm hm2 hraw hp1 hp2
              go_wp2_with fail
              refine wp_region_later wr.heap.size (by kernel_rfl) (by kernel_rfl) ?_
              repeat (go_big_quiet_step (first | (go_at_call 67; exact Calls.later (Nat.le_refl _) (unhide HAP _))))
              refine wpQuiet_nil ?_
              rintro ⟨w4, hb4⟩
              clear hlc hne
              have y10 := (hb4.cell (p := ⟨p, 10, none⟩) hpr).trans q10
              have y0 := (hb4.cell (p := ⟨g, i * 3, none⟩) hgz).trans x0
              have y1 := (hb4.cell (p := ⟨g, i * 3 + 1, none⟩) hgz).trans x1
              have y2 := (hb4.cell (p := ⟨g, i * 3 + 2, none⟩) hgz).trans x2
              have hg4 : g < w4.heap.size := Nat.lt_of_lt_of_le hgz hb4.size
              have hp4 : p < w4.heap.size := Nat.lt_of_lt_of_le hpr hb4.size
              have hne : Nonempty (Later w4.heap.size w4) := Later.some _ _
              have hlc := fun (u : Later w4.heap.size w4) b o h => u.cell b o h
              dsimp only
              go_wp2_with fail
              refine wp_region_later w4.heap.size (by kernel_rfl) (by kernel_rfl) ?_
              repeat (go_big_quiet_step (first | (go_at_call 67; exact Calls.later (Nat.le_refl _) (unhide HAG w4 hb4 _))))
              refine wpQuiet_nil ?_
              rintro ⟨w5, hb5⟩
              clear hlc hne
              have hb45 : Below wr.heap.size wr w5 := hb4.trans (hb5.mono hb4.size)
              have z0 := (hb5.cell (p := ⟨g, i * 3, none⟩) hg4).trans y0
              have hg5 : g < w5.heap.size := Nat.lt_of_lt_of_le hg4 hb5.size
              have FBK := hide ((hb45.block _ hzs).trans (unhide HBLK))
              have FK := hide (kept_below (unhide HK) hb45)
              obtain ⟨e0, e1, e2, e3, e4, e5, e6, e7, e8⟩ := st_cells (unhide FBK)
              clear y0 y1 y2 x0 x1 x2 y10
              dsimp only
              go_wp2_with fail
              go_roundw
              case rel => exact ⟨i + 1, by omega, by go_num, by rw [unhide HSTEP, unhide HAD]; exact st_6 (unhide FBK) _, kept_set (unhide FK) rfl⟩
              case measure => simp [intOf]; omega
            · rw [hp1] at HAP
              have HAD := hide (stepSc_wait (m := m) (a := A) hm2 hraw hp2)
              clear hm hm2 hraw hp1 hp2
              go_wp2_with fail
              refine wp_region_later wr.heap.size (by kernel_rfl) (by kernel_rfl) ?_
              repeat (go_big_quiet_step (first | (go_at_call 67; exact Calls.later (Nat.le_refl _) (unhide HAP _))))
              refine wpQuiet_nil ?_
              rintro ⟨w4, hb4⟩
              clear hlc hne
              have y10 := (hb4.cell (p := ⟨p, 10, none⟩) hpr).trans q10
              have y0 := (hb4.cell (p := ⟨g, i * 3, none⟩) hgz).trans x0
              have y1 := (hb4.cell (p := ⟨g, i * 3 + 1, none⟩) hgz).trans x1
              have y2 := (hb4.cell (p := ⟨g, i * 3 + 2, none⟩) hgz).trans x2
              have hg4 : g < w4.heap.size := Nat.lt_of_lt_of_le hgz hb4.size
              have hp4 : p < w4.heap.size := Nat.lt_of_lt_of_le hpr hb4.size
              have hne : Nonempty (Later w4.heap.size w4) := Later.some _ _
              have hlc := fun (u : Later w4.heap.size w4) b o h => u.cell b o h
              dsimp only
              go_wp2_with fail
              refine wp_region_later w4.heap.size (by kernel_rfl) (by kernel_rfl) ?_
              repeat (go_big_quiet_step (first | (go_at_call 67; exact Calls.later (Nat.le_refl _) (unhide HAG w4 hb4 _))))
              refine wpQuiet_nil ?_
              rintro ⟨w5, hb5⟩
              clear hlc hne
              have hb45 : Below wr.heap.size wr w5 := hb4.trans (hb5.mono hb4.size)
              have z0 := (hb5.cell (p := ⟨g, i * 3, none⟩) hg4).trans y0
              have hg5 : g < w5.heap.size := Nat.lt_of_lt_of_le hg4 hb5.size
              have FBK := hide ((hb45.block _ hzs).trans (unhide HBLK))
              have FK := hide (kept_below (unhide HK) hb45)
              obtain ⟨e0, e1, e2, e3, e4, e5, e6, e7, e8⟩ := st_cells (unhide FBK)
              clear y0 y1 y2 x0 x1 x2 y10
              dsimp only
              go_wp2_with fail
              go_roundw
              case rel => exact ⟨i + 1, by omega, by go_num, by rw [unhide HSTEP, unhide HAD]; exact st_5 (unhide FBK) _, kept_set (unhide FK) rfl⟩
              case measure => simp [intOf]; omega
      · have hii : i = L.length := by omega
        rw [hii, List.take_length] at hblk
        obtain ⟨e0, e1, e2, e3, e4, e5, e6, e7, -⟩ := st_cells hblk
        have qz := (((unhide HK).block w.heap.size (by omega) (by omega)).trans (unhide HZ3))
        have f0 : wr.cell? ⟨w.heap.size, 0, none⟩ = some (.int .i64 0) := by rw [rcell qz]; rfl
        have f1 : wr.cell? ⟨w.heap.size, 1, none⟩ = some (.int .i64 0) := by rw [rcell qz]; rfl
        have f2 : wr.cell? ⟨w.heap.size, 2, none⟩ = some (.int .i64 0) := by rw [rcell qz]; rfl
        have f3 : wr.cell? ⟨w.heap.size, 3, none⟩ = some (.int .i64 0) := by rw [rcell qz]; rfl
        have f4 : wr.cell? ⟨w.heap.size, 4, none⟩ = some (.int .i64 0) := by rw [rcell qz]; rfl
        have f5 : wr.cell? ⟨w.heap.size, 5, none⟩ = some (.int .i64 0) := by rw [rcell qz]; rfl
        have f6 : wr.cell? ⟨w.heap.size, 6, none⟩ = some (.int .i64 0) := by rw [rcell qz]; rfl
        have f7 : wr.cell? ⟨w.heap.size, 7, none⟩ = some (.int .i64 0) := by rw [rcell qz]; rfl
        have ff : ∀ j, wr.frozen? ⟨w.heap.size, j, none⟩ = false := fun j => rfree qz j
        have QZ := hide qz
        clear qz hblk
        generalize hA : scOf m L = A at *
        have HA := hide hA
        clear hA
        go_wp2_with fail
        have hf := set8 (unhide QZ) (.int .i64 m.now) (.int .i64 m.used) (.int .i64 m.tightI) (.int .i64 m.epoch) (.int .i64 A.held) (.int .i64 A.wait) (.int .i64 A.pub) (.int .i64 A.gone)
        refine bodyPost_ret (v := .agg #[.int .i64 m.now, .int .i64 m.used, .int .i64 m.tightI, .int .i64 m.epoch, .int .i64 A.held, .int .i64 A.wait, .int .i64 A.pub, .int .i64 A.gone]) (results_cell_row Tryz.results38 _ _ w.heap.size _ _ _ _ rfl hf Tryz.underlying77 rfl (by kernel_rfl)) rfl ⟨by rw [unhide HL, unhide HA], ?_⟩
        refine (unhide HBR).trans ?_
        repeat (refine below_set ?_ (Nat.le_refl _))
        exact Below.refl _ _
  · rw [hti] at HT
    have HTI := hide (tightI_true hti)
    go_wp2_with fail
    refine (unhide HT).mono ?_
    rintro e w2 ⟨rfl, hb2⟩
    have hbw2 : Below w.heap.size w w2 := (hbw.trans ((unhide HB1).mono hbw.size)).trans (hb2.mono (hbw.trans ((unhide HB1).mono hbw.size)).size)
    have hr := (unhide H).later hbw2
    obtain ⟨r7, r8, r9, r10, r11, r12, r13⟩ := hr.rest
    clear r8 r9 r10 r11 r13
    have HRR := hide hr
    have hp2 := hr.lt
    clear hr
    go_wp2_with fail
    go_region
    go_wp2_with fail
    have hX0 : (w2.alloc (stObj m.now m.used 1 m.epoch ⟨0, 0, 0, 0⟩)).drew.heap[w2.heap.size]? = some (stObj m.now m.used m.tightI m.epoch ⟨0, 0, 0, 0⟩) := by rw [unhide HTI]; exact rlast w2 _
    have hX1 : Below w2.heap.size w2 (w2.alloc (stObj m.now m.used 1 m.epoch ⟨0, 0, 0, 0⟩)).drew := ((Below.refl _ _).alloc (Nat.le_refl _) _).drew
    have hX2 : w2.heap.size < (w2.alloc (stObj m.now m.used 1 m.epoch ⟨0, 0, 0, 0⟩)).drew.heap.size := by show _ < (w2.alloc _).heap.size; rw [rsize]; omega
    change Calls Tryz.prog _ _ (w2.alloc (stObj m.now m.used 1 m.epoch ⟨0, 0, 0, 0⟩)).drew _
    generalize (w2.alloc (stObj m.now m.used 1 m.epoch ⟨0, 0, 0, 0⟩)).drew = X at *
    generalize hL : segsOf m.c m.nums = L at *
    have HSG := hide (segments_any ((unhide HRR).later hX1) hc (by omega) hno)
    rw [hL] at HSG
    have hzb := (hX1.block w.heap.size (by have := hbw2.size; have := hb2.size; have := (unhide HB1).size; have := unhide HWZ; omega)).trans ((hb2.block w.heap.size (by have := (unhide HB1).size; have := unhide HWZ; omega)).trans (((unhide HB1).block w.heap.size (by have := unhide HWZ; omega)).trans (unhide B1)))
    have hw2w : w.heap.size < w2.heap.size := by have := hb2.size; have := (unhide HB1).size; have := unhide HWZ; omega
    have HZB := hide hzb
    have HL := hide hL
    have HX0 := hide hX0
    clear hzb hX0 hL hb2 HU HT r7 r12
    refine (unhide HSG).mono ?_
    rintro e w3 ⟨v, rfl, hv3, hb3⟩
    obtain ⟨al, cl, hvl⟩ := row_slice hv3
    subst hvl
    have HV3 := hide hv3
    have HB3 := hide hb3
    have hbX : Below w.heap.size w X := hbw2.trans (hX1.mono hbw2.size)
    have hb03 : Below w.heap.size w w3 := hbX.trans (hb3.mono hbX.size)
    have hX3 := hb3.size
    have HZ3 := hide ((hb3.block w.heap.size (by omega)).trans (unhide HZB))
    clear hv3 hb3
    go_wp2_with fail
    go_loopw [7, 8, 9] (fun y _ _ wr => ∃ (i : Nat), i ≤ L.length ∧ y = .int .i64 i ∧ stRel w w3 m L w2.heap.size m.used m.tightI i wr) (fun y _ _ _ => L.length - (intOf y).toNat)
    case atStart => exact ⟨0, Nat.zero_le _, rfl, ((unhide HB3).block _ hX2).trans (unhide HX0), Kept.refl _ _⟩
    case round =>
      obtain ⟨i, hi, rfl, hblk, hk⟩ := hrel
      have hbr : Below w.heap.size w wr := hb03.trans (hk.below hb03.size (fun k e => by rw [e]; omega))
      have hr := (unhide H).later hbr
      have hpr := hr.lt
      obtain ⟨q7, q8, q9, q10, q11, q12, q13⟩ := hr.rest
      clear q7 q8 q11 q12 q13
      have hzs : w2.heap.size < wr.heap.size := lt_of_heap hblk
      have hv := owns_kept (unhide HV3) hk (fun k hk2 e => by
        have := ((unhide HV3).lt k hk2).1
        omega)
      have HRR2 := hide hr
      have HV := hide hv
      have HK := hide hk
      have HBR := hide hbr
      clear hr hv hk hbr
      by_cases hil : i < L.length
      · obtain ⟨s, hs⟩ := rget_of_lt hil
        obtain ⟨g, cap', hvn, hgb, hgz, x0, x1, x2⟩ := sg_at (unhide HV) hs
        injection hvn with hvn1 hvn2 hvn3
        subst hvn1
        have hstep := scOf_take m L i s hs
        have hin : (i : Int) < L.length := by omega
        have hab := scOf_bound m (L.take i)
        rw [List.length_take, Nat.min_eq_left hi] at hab
        generalize scOf m (L.take i) = A at *
        obtain ⟨a1, a2, a3, a4, a5, a6, a7, a8⟩ := hab
        have HSTEP := hide hstep
        have HBLK := hide hblk
        clear hs hstep hvn2 hvn3 hblk
        have hne : Nonempty (Later wr.heap.size wr) := Later.some _ _
        have hlc := fun (u : Later wr.heap.size wr) b o h => u.cell b o h
        have HAP := hide (fun (u : Later wr.heap.size wr) => among_any B m.pub _ s u.1 (by omega) ((unhide HRR2).later u.2).prow)
        have HAG := hide (fun (w1 : World) (hb1 : Below wr.heap.size wr w1) (u : Later w1.heap.size w1) => among_any B m.gone _ s u.1 (by omega) ((unhide HRR2).later (hb1.trans (u.2.mono hb1.size))).grow)
        rcases memB_cases s m.gone with ⟨hm, hm2⟩ | ⟨hm, hm2⟩
        · rw [hm] at HAG
          have HAD := hide (stepSc_gone (m := m) (a := A) hm2)
          clear hm hm2
          go_wp2_with fail
          refine wp_region_later wr.heap.size (by kernel_rfl) (by kernel_rfl) ?_
          repeat (go_big_quiet_step (first | (go_at_call 67; exact Calls.later (Nat.le_refl _) (unhide HAP _))))
          refine wpQuiet_nil ?_
          rintro ⟨w4, hb4⟩
          clear hlc hne
          have y10 := (hb4.cell (p := ⟨p, 10, none⟩) hpr).trans q10
          have y0 := (hb4.cell (p := ⟨g, i * 3, none⟩) hgz).trans x0
          have y1 := (hb4.cell (p := ⟨g, i * 3 + 1, none⟩) hgz).trans x1
          have y2 := (hb4.cell (p := ⟨g, i * 3 + 2, none⟩) hgz).trans x2
          have hg4 : g < w4.heap.size := Nat.lt_of_lt_of_le hgz hb4.size
          have hp4 : p < w4.heap.size := Nat.lt_of_lt_of_le hpr hb4.size
          have hne : Nonempty (Later w4.heap.size w4) := Later.some _ _
          have hlc := fun (u : Later w4.heap.size w4) b o h => u.cell b o h
          dsimp only
          go_wp2_with fail
          refine wp_region_later w4.heap.size (by kernel_rfl) (by kernel_rfl) ?_
          repeat (go_big_quiet_step (first | (go_at_call 67; exact Calls.later (Nat.le_refl _) (unhide HAG w4 hb4 _))))
          refine wpQuiet_nil ?_
          rintro ⟨w5, hb5⟩
          clear hlc hne
          have hb45 : Below wr.heap.size wr w5 := hb4.trans (hb5.mono hb4.size)
          have z0 := (hb5.cell (p := ⟨g, i * 3, none⟩) hg4).trans y0
          have hg5 : g < w5.heap.size := Nat.lt_of_lt_of_le hg4 hb5.size
          have FBK := hide ((hb45.block _ hzs).trans (unhide HBLK))
          have FK := hide (kept_below (unhide HK) hb45)
          obtain ⟨e0, e1, e2, e3, e4, e5, e6, e7, e8⟩ := st_cells (unhide FBK)
          clear y0 y1 y2 x0 x1 x2 y10
          dsimp only
          go_wp2_with fail
          go_roundw
          case rel => exact ⟨i + 1, by omega, by go_num, by rw [unhide HSTEP, unhide HAD]; exact st_7 (unhide FBK) _, kept_set (unhide FK) rfl⟩
          case measure => simp [intOf]; omega
        · rw [hm] at HAG
          by_cases hraw : s.t = -1
          · have HAD := hide (stepSc_held (m := m) (a := A) hm2 hraw)
            have hrb : (s.t == -1) = true := by simp [hraw]
            clear hm hm2 hraw
            go_wp2_with fail
            refine wp_region_later wr.heap.size (by kernel_rfl) (by kernel_rfl) ?_
            repeat (go_big_quiet_step (first | (go_at_call 67; exact Calls.later (Nat.le_refl _) (unhide HAP _))))
            refine wpQuiet_nil ?_
            rintro ⟨w4, hb4⟩
            clear hlc hne
            have y10 := (hb4.cell (p := ⟨p, 10, none⟩) hpr).trans q10
            have y0 := (hb4.cell (p := ⟨g, i * 3, none⟩) hgz).trans x0
            have y1 := (hb4.cell (p := ⟨g, i * 3 + 1, none⟩) hgz).trans x1
            have y2 := (hb4.cell (p := ⟨g, i * 3 + 2, none⟩) hgz).trans x2
            have hg4 : g < w4.heap.size := Nat.lt_of_lt_of_le hgz hb4.size
            have hp4 : p < w4.heap.size := Nat.lt_of_lt_of_le hpr hb4.size
            have hne : Nonempty (Later w4.heap.size w4) := Later.some _ _
            have hlc := fun (u : Later w4.heap.size w4) b o h => u.cell b o h
            dsimp only
            go_wp2_with fail
            refine wp_region_later w4.heap.size (by kernel_rfl) (by kernel_rfl) ?_
            repeat (go_big_quiet_step (first | (go_at_call 67; exact Calls.later (Nat.le_refl _) (unhide HAG w4 hb4 _))))
            refine wpQuiet_nil ?_
            rintro ⟨w5, hb5⟩
            clear hlc hne
            have hb45 : Below wr.heap.size wr w5 := hb4.trans (hb5.mono hb4.size)
            have z0 := (hb5.cell (p := ⟨g, i * 3, none⟩) hg4).trans y0
            have hg5 : g < w5.heap.size := Nat.lt_of_lt_of_le hg4 hb5.size
            have FBK := hide ((hb45.block _ hzs).trans (unhide HBLK))
            have FK := hide (kept_below (unhide HK) hb45)
            obtain ⟨e0, e1, e2, e3, e4, e5, e6, e7, e8⟩ := st_cells (unhide FBK)
            clear y0 y1 y2 x0 x1 x2 y10
            dsimp only
            go_wp2_with fail
            go_roundw
            case rel => exact ⟨i + 1, by omega, by go_num, by rw [unhide HSTEP, unhide HAD]; exact st_4 (unhide FBK) _, kept_set (unhide FK) rfl⟩
            case measure => simp [intOf]; omega
          · have hrb : (s.t == -1) = false := by simp [hraw]
            rcases memB_cases s m.pub with ⟨hp1, hp2⟩ | ⟨hp1, hp2⟩
            · rw [hp1] at HAP
              have HAD := hide (stepSc_pub (m := m) (a := A) hm2 hraw hp2)
              clear hm hm2 hraw hp1 hp2
              go_wp2_with fail
              refine wp_region_later wr.heap.size (by kernel_rfl) (by kernel_rfl) ?_
              repeat (go_big_quiet_step (first | (go_at_call 67; exact Calls.later (Nat.le_refl _) (unhide HAP _))))
              refine wpQuiet_nil ?_
              rintro ⟨w4, hb4⟩
              clear hlc hne
              have y10 := (hb4.cell (p := ⟨p, 10, none⟩) hpr).trans q10
              have y0 := (hb4.cell (p := ⟨g, i * 3, none⟩) hgz).trans x0
              have y1 := (hb4.cell (p := ⟨g, i * 3 + 1, none⟩) hgz).trans x1
              have y2 := (hb4.cell (p := ⟨g, i * 3 + 2, none⟩) hgz).trans x2
              have hg4 : g < w4.heap.size := Nat.lt_of_lt_of_le hgz hb4.size
              have hp4 : p < w4.heap.size := Nat.lt_of_lt_of_le hpr hb4.size
              have hne : Nonempty (Later w4.heap.size w4) := Later.some _ _
              have hlc := fun (u : Later w4.heap.size w4) b o h => u.cell b o h
              dsimp only
              go_wp2_with fail
              refine wp_region_later w4.heap.size (by kernel_rfl) (by kernel_rfl) ?_
              repeat (go_big_quiet_step (first | (go_at_call 67; exact Calls.later (Nat.le_refl _) (unhide HAG w4 hb4 _))))
              refine wpQuiet_nil ?_
              rintro ⟨w5, hb5⟩
              clear hlc hne
              have hb45 : Below wr.heap.size wr w5 := hb4.trans (hb5.mono hb4.size)
              have z0 := (hb5.cell (p := ⟨g, i * 3, none⟩) hg4).trans y0
              have hg5 : g < w5.heap.size := Nat.lt_of_lt_of_le hg4 hb5.size
              have FBK := hide ((hb45.block _ hzs).trans (unhide HBLK))
              have FK := hide (kept_below (unhide HK) hb45)
              obtain ⟨e0, e1, e2, e3, e4, e5, e6, e7, e8⟩ := st_cells (unhide FBK)
              clear y0 y1 y2 x0 x1 x2 y10
              dsimp only
              go_wp2_with fail
              go_roundw
              case rel => exact ⟨i + 1, by omega, by go_num, by rw [unhide HSTEP, unhide HAD]; exact st_6 (unhide FBK) _, kept_set (unhide FK) rfl⟩
              case measure => simp [intOf]; omega
            · rw [hp1] at HAP
              have HAD := hide (stepSc_wait (m := m) (a := A) hm2 hraw hp2)
              clear hm hm2 hraw hp1 hp2
              go_wp2_with fail
              refine wp_region_later wr.heap.size (by kernel_rfl) (by kernel_rfl) ?_
              repeat (go_big_quiet_step (first | (go_at_call 67; exact Calls.later (Nat.le_refl _) (unhide HAP _))))
              refine wpQuiet_nil ?_
              rintro ⟨w4, hb4⟩
              clear hlc hne
              have y10 := (hb4.cell (p := ⟨p, 10, none⟩) hpr).trans q10
              have y0 := (hb4.cell (p := ⟨g, i * 3, none⟩) hgz).trans x0
              have y1 := (hb4.cell (p := ⟨g, i * 3 + 1, none⟩) hgz).trans x1
              have y2 := (hb4.cell (p := ⟨g, i * 3 + 2, none⟩) hgz).trans x2
              have hg4 : g < w4.heap.size := Nat.lt_of_lt_of_le hgz hb4.size
              have hp4 : p < w4.heap.size := Nat.lt_of_lt_of_le hpr hb4.size
              have hne : Nonempty (Later w4.heap.size w4) := Later.some _ _
              have hlc := fun (u : Later w4.heap.size w4) b o h => u.cell b o h
              dsimp only
              go_wp2_with fail
              refine wp_region_later w4.heap.size (by kernel_rfl) (by kernel_rfl) ?_
              repeat (go_big_quiet_step (first | (go_at_call 67; exact Calls.later (Nat.le_refl _) (unhide HAG w4 hb4 _))))
              refine wpQuiet_nil ?_
              rintro ⟨w5, hb5⟩
              clear hlc hne
              have hb45 : Below wr.heap.size wr w5 := hb4.trans (hb5.mono hb4.size)
              have z0 := (hb5.cell (p := ⟨g, i * 3, none⟩) hg4).trans y0
              have hg5 : g < w5.heap.size := Nat.lt_of_lt_of_le hg4 hb5.size
              have FBK := hide ((hb45.block _ hzs).trans (unhide HBLK))
              have FK := hide (kept_below (unhide HK) hb45)
              obtain ⟨e0, e1, e2, e3, e4, e5, e6, e7, e8⟩ := st_cells (unhide FBK)
              clear y0 y1 y2 x0 x1 x2 y10
              dsimp only
              go_wp2_with fail
              go_roundw
              case rel => exact ⟨i + 1, by omega, by go_num, by rw [unhide HSTEP, unhide HAD]; exact st_5 (unhide FBK) _, kept_set (unhide FK) rfl⟩
              case measure => simp [intOf]; omega
      · have hii : i = L.length := by omega
        rw [hii, List.take_length] at hblk
        obtain ⟨e0, e1, e2, e3, e4, e5, e6, e7, -⟩ := st_cells hblk
        have qz := (((unhide HK).block w.heap.size (by omega) (by omega)).trans (unhide HZ3))
        have f0 : wr.cell? ⟨w.heap.size, 0, none⟩ = some (.int .i64 0) := by rw [rcell qz]; rfl
        have f1 : wr.cell? ⟨w.heap.size, 1, none⟩ = some (.int .i64 0) := by rw [rcell qz]; rfl
        have f2 : wr.cell? ⟨w.heap.size, 2, none⟩ = some (.int .i64 0) := by rw [rcell qz]; rfl
        have f3 : wr.cell? ⟨w.heap.size, 3, none⟩ = some (.int .i64 0) := by rw [rcell qz]; rfl
        have f4 : wr.cell? ⟨w.heap.size, 4, none⟩ = some (.int .i64 0) := by rw [rcell qz]; rfl
        have f5 : wr.cell? ⟨w.heap.size, 5, none⟩ = some (.int .i64 0) := by rw [rcell qz]; rfl
        have f6 : wr.cell? ⟨w.heap.size, 6, none⟩ = some (.int .i64 0) := by rw [rcell qz]; rfl
        have f7 : wr.cell? ⟨w.heap.size, 7, none⟩ = some (.int .i64 0) := by rw [rcell qz]; rfl
        have ff : ∀ j, wr.frozen? ⟨w.heap.size, j, none⟩ = false := fun j => rfree qz j
        have QZ := hide qz
        clear qz hblk
        generalize hA : scOf m L = A at *
        have HA := hide hA
        clear hA
        go_wp2_with fail
        have hf := set8 (unhide QZ) (.int .i64 m.now) (.int .i64 m.used) (.int .i64 m.tightI) (.int .i64 m.epoch) (.int .i64 A.held) (.int .i64 A.wait) (.int .i64 A.pub) (.int .i64 A.gone)
        refine bodyPost_ret (v := .agg #[.int .i64 m.now, .int .i64 m.used, .int .i64 m.tightI, .int .i64 m.epoch, .int .i64 A.held, .int .i64 A.wait, .int .i64 A.pub, .int .i64 A.gone]) (results_cell_row Tryz.results38 _ _ w.heap.size _ _ _ _ rfl hf Tryz.underlying77 rfl (by kernel_rfl)) rfl ⟨by rw [unhide HL, unhide HA], ?_⟩
        refine (unhide HBR).trans ?_
        repeat (refine below_set ?_ (Nat.le_refl _))
        exact Below.refl _ _
end Go.Proofs.YtgadceofpbfleaaGreat
