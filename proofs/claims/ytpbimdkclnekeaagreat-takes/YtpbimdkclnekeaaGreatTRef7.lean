import Derived.Test.YtpbimdkclnekeaaGreatTRef6
import Derived.Laws.ResultCell

namespace Go.Proofs.YtpbimdkclnekeaaGreat
open Value (int)
open IntKind (i64)
open Go.RowKit
set_option linter.unusedVariables false
structure Sc where
 held : Int
 wait : Int
 pub : Int
 gone : Int
def stepSc (m : RM) (a : Sc) (s : Sg) : Sc :=
 if s ∈ m.gone then ⟨a.held, a.wait, a.pub, a.gone + 1⟩ else if s.t = -1 then ⟨a.held + 1, a.wait, a.pub, a.gone⟩ else if s ∈ m.pub then ⟨a.held, a.wait, a.pub + 1, a.gone⟩ else ⟨a.held, a.wait + 1, a.pub, a.gone⟩
def scOf (m : RM) (l : List Sg) : Sc := l.foldl (stepSc m) ⟨0, 0, 0, 0⟩
theorem scOf_take (m : RM) (l : List Sg) (i : Nat) (s : Sg) (h : l[i]? = some s) : scOf m (l.take (i + 1)) = stepSc m (scOf m (l.take i)) s := by
 obtain ⟨hl, hx⟩ := List.getElem?_eq_some_iff.1 h
 rw [List.take_succ_eq_append_getElem hl, hx]; simp [scOf]
theorem stepSc_gone {m : RM} {a : Sc} {s : Sg} (h : s ∈ m.gone) : stepSc m a s = ⟨a.held, a.wait, a.pub, a.gone + 1⟩ := by simp [stepSc, h]
theorem stepSc_held {m : RM} {a : Sc} {s : Sg} (h : ¬ s ∈ m.gone) (h1 : s.t = -1) : stepSc m a s = ⟨a.held + 1, a.wait, a.pub, a.gone⟩ := by simp [stepSc, h, h1]
theorem stepSc_pub {m : RM} {a : Sc} {s : Sg} (h : ¬ s ∈ m.gone) (h1 : ¬ s.t = -1) (h2 : s ∈ m.pub) : stepSc m a s = ⟨a.held, a.wait, a.pub + 1, a.gone⟩ := by simp [stepSc, h, h1, h2]
theorem stepSc_wait {m : RM} {a : Sc} {s : Sg} (h : ¬ s ∈ m.gone) (h1 : ¬ s.t = -1) (h2 : ¬ s ∈ m.pub) : stepSc m a s = ⟨a.held, a.wait + 1, a.pub, a.gone⟩ := by simp [stepSc, h, h1, h2]
def Sc.ok (a : Sc) (n : Int) : Prop := 0 <= a.held /\ a.held <= n /\ 0 <= a.wait /\ a.wait <= n /\ 0 <= a.pub /\ a.pub <= n /\ 0 <= a.gone /\ a.gone <= n
theorem scOf_bounds (m : RM) : ∀ (l : List Sg) (a : Sc) (n : Nat), a.ok n -> (l.foldl (stepSc m) a).ok (n + l.length)
 | [], a, n, h => by simpa using h
 | s :: r, a, n, h => by
  have := scOf_bounds m r (stepSc m a s) (n + 1) (by
   unfold Sc.ok at h ⊢
   unfold stepSc
   split
   ·dsimp only; omega
   ·split
    ·dsimp only; omega
    ·split
     ·dsimp only; omega
     ·dsimp only; omega)
  rw [List.foldl_cons, List.length_cons]
  unfold Sc.ok at this ⊢
  omega
theorem scOf_bound (m : RM) (l : List Sg) : (scOf m l).ok l.length := by
 have := scOf_bounds m l ⟨0, 0, 0, 0⟩ 0 (by simp [Sc.ok])
 simpa [scOf] using this
def RM.tightI (m : RM) : Int := if m.tight then 1 else 0
theorem tightI_true {m : RM} (h : m.tight = true) : m.tightI = 1 := by simp [RM.tightI, h]
theorem tightI_false {m : RM} (h : m.tight = false) : m.tightI = 0 := by simp [RM.tightI, h]
def stObj (now used ti ep : Int) (A : Sc) : Obj := .cells #[int i64 now, int i64 used, int i64 ti, int i64 ep, int i64 A.held, int i64 A.wait, int i64 A.pub, int i64 A.gone] 37 (0, 0)
theorem st_cells {w : World} {g : Nat} {now used ti ep : Int} {A : Sc} (h : w.heap[g]? = some (stObj now used ti ep A)) :
  w.cell? ⟨g, 0, none⟩ = some (int i64 now) /\ w.cell? ⟨g, 1, none⟩ = some (int i64 used) /\ w.cell? ⟨g, 2, none⟩ = some (int i64 ti) /\ w.cell? ⟨g, 3, none⟩ = some (int i64 ep) /\ w.cell? ⟨g, 4, none⟩ = some (int i64 A.held) /\ w.cell? ⟨g, 5, none⟩ = some (int i64 A.wait) /\ w.cell? ⟨g, 6, none⟩ = some (int i64 A.pub) /\ w.cell? ⟨g, 7, none⟩ = some (int i64 A.gone) /\ ∀ j, w.frozen? ⟨g, j, none⟩ = false := by
 refine ⟨?_, ?_, ?_, ?_, ?_, ?_, ?_, ?_, fun j => zaz h j⟩ <;> rw [zac h] <;> rfl
theorem st_4 {w : World} {g : Nat} {now used ti ep : Int} {A : Sc} (h : w.heap[g]? = some (stObj now used ti ep A)) (v : Int) : (w.setCell ⟨g, 4, none⟩ (int i64 v)).heap[g]? = some (stObj now used ti ep ⟨v, A.wait, A.pub, A.gone⟩) := zbz (i := 4) h (int i64 v)
theorem st_5 {w : World} {g : Nat} {now used ti ep : Int} {A : Sc} (h : w.heap[g]? = some (stObj now used ti ep A)) (v : Int) : (w.setCell ⟨g, 5, none⟩ (int i64 v)).heap[g]? = some (stObj now used ti ep ⟨A.held, v, A.pub, A.gone⟩) := zbz (i := 5) h (int i64 v)
theorem st_6 {w : World} {g : Nat} {now used ti ep : Int} {A : Sc} (h : w.heap[g]? = some (stObj now used ti ep A)) (v : Int) : (w.setCell ⟨g, 6, none⟩ (int i64 v)).heap[g]? = some (stObj now used ti ep ⟨A.held, A.wait, v, A.gone⟩) := zbz (i := 6) h (int i64 v)
theorem st_7 {w : World} {g : Nat} {now used ti ep : Int} {A : Sc} (h : w.heap[g]? = some (stObj now used ti ep A)) (v : Int) : (w.setCell ⟨g, 7, none⟩ (int i64 v)).heap[g]? = some (stObj now used ti ep ⟨A.held, A.wait, A.pub, v⟩) := zbz (i := 7) h (int i64 v)
theorem zag {f : Nat -> Prop} {a w : World} {g i : Nat} {v : Value} (h : zan f a w) (hg : f g) : zan f a (w.setCell ⟨g, i, none⟩ v) := h.setCell (p := ⟨g, i, none⟩) (fun _ => hg) v
theorem zcm {f : Nat -> Prop} {a w w' : World} (h : zan f a w) (hb : Below w.heap.size w w') : zan f a w' := h.trans (zan.of_below (f := f) hb) (fun _ _ h => h)
theorem set8 {w : World} {g : Nat} {a b c d e f i j : Value} {t : TypeId} {fr : Nat × Nat} (h : w.heap[g]? = some (.cells #[a, b, c, d, e, f, i, j] t fr)) (x0 x1 x2 x3 x4 x5 x6 x7 : Value) : ((((((((w.setCell ⟨g, 0, none⟩ x0).setCell ⟨g, 1, none⟩ x1).setCell ⟨g, 2, none⟩ x2).setCell ⟨g, 3, none⟩ x3).setCell ⟨g, 4, none⟩ x4).setCell ⟨g, 5, none⟩ x5).setCell ⟨g, 6, none⟩ x6).setCell ⟨g, 7, none⟩ x7).heap[g]? = some (.cells #[x0, x1, x2, x3, x4, x5, x6, x7] t fr) := by
 have h0 : (w.setCell ⟨g, 0, none⟩ x0).heap[g]? = some (.cells #[x0, b, c, d, e, f, i, j] t fr) := zbz (i := 0) h x0
 have h1 : ((w.setCell ⟨g, 0, none⟩ x0).setCell ⟨g, 1, none⟩ x1).heap[g]? = some (.cells #[x0, x1, c, d, e, f, i, j] t fr) := zbz (i := 1) h0 x1
 have h2 : (((w.setCell ⟨g, 0, none⟩ x0).setCell ⟨g, 1, none⟩ x1).setCell ⟨g, 2, none⟩ x2).heap[g]? = some (.cells #[x0, x1, x2, d, e, f, i, j] t fr) := zbz (i := 2) h1 x2
 have h3 : ((((w.setCell ⟨g, 0, none⟩ x0).setCell ⟨g, 1, none⟩ x1).setCell ⟨g, 2, none⟩ x2).setCell ⟨g, 3, none⟩ x3).heap[g]? = some (.cells #[x0, x1, x2, x3, e, f, i, j] t fr) := zbz (i := 3) h2 x3
 have h4 : (((((w.setCell ⟨g, 0, none⟩ x0).setCell ⟨g, 1, none⟩ x1).setCell ⟨g, 2, none⟩ x2).setCell ⟨g, 3, none⟩ x3).setCell ⟨g, 4, none⟩ x4).heap[g]? = some (.cells #[x0, x1, x2, x3, x4, f, i, j] t fr) := zbz (i := 4) h3 x4
 have h5 : ((((((w.setCell ⟨g, 0, none⟩ x0).setCell ⟨g, 1, none⟩ x1).setCell ⟨g, 2, none⟩ x2).setCell ⟨g, 3, none⟩ x3).setCell ⟨g, 4, none⟩ x4).setCell ⟨g, 5, none⟩ x5).heap[g]? = some (.cells #[x0, x1, x2, x3, x4, x5, i, j] t fr) := zbz (i := 5) h4 x5
 have h6 : (((((((w.setCell ⟨g, 0, none⟩ x0).setCell ⟨g, 1, none⟩ x1).setCell ⟨g, 2, none⟩ x2).setCell ⟨g, 3, none⟩ x3).setCell ⟨g, 4, none⟩ x4).setCell ⟨g, 5, none⟩ x5).setCell ⟨g, 6, none⟩ x6).heap[g]? = some (.cells #[x0, x1, x2, x3, x4, x5, x6, j] t fr) := zbz (i := 6) h5 x6
 have h7 : ((((((((w.setCell ⟨g, 0, none⟩ x0).setCell ⟨g, 1, none⟩ x1).setCell ⟨g, 2, none⟩ x2).setCell ⟨g, 3, none⟩ x3).setCell ⟨g, 4, none⟩ x4).setCell ⟨g, 5, none⟩ x5).setCell ⟨g, 6, none⟩ x6).setCell ⟨g, 7, none⟩ x7).heap[g]? = some (.cells #[x0, x1, x2, x3, x4, x5, x6, x7] t fr) := zbz (i := 7) h6 x7
 exact h7
def stRel (w w3 : World) (m : RM) (L : List Sg) (sB : Nat) (u ti : Int) (i : Nat) (wr : World) : Prop :=
 wr.heap[sB]? = some (stObj m.now u ti m.epoch (scOf m (L.take i))) /\ zan (fun k => k = sB) w3 wr
set_option maxHeartbeats 4000000 in
theorem stats_any {B : Nat} {w : World} {p : Nat} {m : RM} {tv nv pv gv kv : Value} (h : zbk B w p m tv nv pv gv kv) (hc : m.c.ok) (hnl : m.nums.length <= 100000000) (hgl : m.gone.length <= 1000000000000) (hpl : m.pub.length <= 1000000000000) (hno : ∀ x ∈ m.nums, x.ok) (hu : m.used <= 1000000000000000000) :
  Calls Tryz.prog 108 #[.pointer (some ⟨p, 0, none⟩)] w fun e w' => e = .returned (.agg #[int i64 m.now, int i64 m.used, int i64 m.tightI, int i64 m.epoch, int i64 (scOf m (zax m.c m.nums)).held, int i64 (scOf m (zax m.c m.nums)).wait, int i64 (scOf m (zax m.c m.nums)).pub, int i64 (scOf m (zax m.c m.nums)).gone]) /\ Below w.heap.size w w' := by
 have H := zab h
 have b1 := zap w (.cells #[int i64 0, int i64 0, int i64 0, int i64 0, int i64 0, int i64 0, int i64 0, int i64 0] 37)
 have hbw : Below w.heap.size w (w.alloc (.cells #[int i64 0, int i64 0, int i64 0, int i64 0, int i64 0, int i64 0, int i64 0, int i64 0] 37)) := (Below.refl _ _).alloc (Nat.le_refl _) _
 have hsl := segsOf_len (nums := m.nums) hc.n4 (by omega)
 obtain ⟨ag, cg, hgv⟩ := zah h.grow
 subst hgv
 obtain ⟨ap, cp, hpv⟩ := zah h.prow
 subst hpv
 have hp := h.lt
 generalize hW : (w.alloc (.cells #[int i64 0, int i64 0, int i64 0, int i64 0, int i64 0, int i64 0, int i64 0, int i64 0] 37)) = W at *
 have hWz : W.heap.size = w.heap.size + 1 := by rw [<- hW, zbd]
 have HU := zab (used_any (h.later hbw) hc (by omega) hgl hno)
 have HW := zab hW
 have B1 := zab b1
 have HWZ := zab hWz
 clear h b1 hW hWz
 have HGO : Hid (∀ (v : Value), True) := fun _ => trivial
 go_enter Tryz.func108, Tryz.ntmps108
 go_wp2_with fail
 rw [ud HW]
 refine (ud HU).mono ?_
 rintro e w1 ⟨rfl, hb1⟩
 have HT := zab (tight_any ((ud H).later (hbw.trans (hb1.mono hbw.size))) hc hnl hgl hno hu)
 have HB1 := zab hb1
 clear hb1
 cases hti : m.tight
 ·rw [hti] at HT
  have HTI := zab (tightI_false hti)
  go_wp2_with fail
  refine (ud HT).mono ?_
  rintro e w2 ⟨rfl, hb2⟩
  have hbw2 : Below w.heap.size w w2 := (hbw.trans ((ud HB1).mono hbw.size)).trans (hb2.mono (hbw.trans ((ud HB1).mono hbw.size)).size)
  have hr := (ud H).later hbw2
  obtain ⟨r7, r8, r9, r10, r11, r12, r13⟩ := hr.rest
  clear r8 r9 r10 r11 r13
  have HRR := zab hr
  have hp2 := hr.lt
  clear hr
  go_wp2_with fail
  go_region
  go_wp2_with fail
  have hX0 : (w2.alloc (stObj m.now m.used 0 m.epoch ⟨0, 0, 0, 0⟩)).drew.heap[w2.heap.size]? = some (stObj m.now m.used m.tightI m.epoch ⟨0, 0, 0, 0⟩) := by rw [ud HTI]; exact zap w2 _
  have hX1 : Below w2.heap.size w2 (w2.alloc (stObj m.now m.used 0 m.epoch ⟨0, 0, 0, 0⟩)).drew := ((Below.refl _ _).alloc (Nat.le_refl _) _).drew
  have hX2 : w2.heap.size < (w2.alloc (stObj m.now m.used 0 m.epoch ⟨0, 0, 0, 0⟩)).drew.heap.size := by show _ < (w2.alloc _).heap.size; rw [zbd]; omega
  change Calls Tryz.prog _ _ (w2.alloc (stObj m.now m.used 0 m.epoch ⟨0, 0, 0, 0⟩)).drew _
  generalize (w2.alloc (stObj m.now m.used 0 m.epoch ⟨0, 0, 0, 0⟩)).drew = X at *
  generalize hL : zax m.c m.nums = L at *
  have HSG := zab (segments_any ((ud HRR).later hX1) hc (by omega) hno)
  rw [hL] at HSG
  have hzb := (hX1.block w.heap.size (by have := hbw2.size; have := hb2.size; have := (ud HB1).size; have := ud HWZ; omega)).trans ((hb2.block w.heap.size (by have := (ud HB1).size; have := ud HWZ; omega)).trans (((ud HB1).block w.heap.size (by have := ud HWZ; omega)).trans (ud B1)))
  have hw2w : w.heap.size < w2.heap.size := by have := hb2.size; have := (ud HB1).size; have := ud HWZ; omega
  have HZB := zab hzb
  have HL := zab hL
  have HX0 := zab hX0
  clear hzb hX0 hL hb2 HU HT r7 r12
  refine (ud HSG).mono ?_
  rintro e w3 ⟨v, rfl, hv3, hb3⟩
  obtain ⟨al, cl, hvl⟩ := zah hv3
  subst hvl
  have HV3 := zab hv3
  have HB3 := zab hb3
  have hbX : Below w.heap.size w X := hbw2.trans (hX1.mono hbw2.size)
  have hb03 : Below w.heap.size w w3 := hbX.trans (hb3.mono hbX.size)
  have hX3 := hb3.size
  have HZ3 := zab ((hb3.block w.heap.size (by omega)).trans (ud HZB))
  clear hv3 hb3
  go_wp2_with fail
  go_loopw [7, 8, 9] (fun y _ _ wr => ∃ (i : Nat), i <= L.length /\ y = int i64 i /\ stRel w w3 m L w2.heap.size m.used m.tightI i wr) (fun y _ _ _ => L.length - (intOf y).toNat)
  case atStart => exact ⟨0, Nat.zero_le _, rfl, ((ud HB3).block _ hX2).trans (ud HX0), zan.refl _ _⟩
  case round =>
   obtain ⟨i, hi, rfl, hblk, hk⟩ := hrel
   have hbr : Below w.heap.size w wr := hb03.trans (hk.below hb03.size (fun k e => by rw [e]; omega))
   have hr := (ud H).later hbr
   have hpr := hr.lt
   obtain ⟨q7, q8, q9, q10, q11, q12, q13⟩ := hr.rest
   clear q7 q8 q11 q12 q13
   have hzs : w2.heap.size < wr.heap.size := zaa hblk
   have hv := zae (ud HV3) hk (fun k hk2 e => by
    have := ((ud HV3).lt k hk2).1
    omega)
   have HRR2 := zab hr
   have HV := zab hv
   have HK := zab hk
   have HBR := zab hbr
   clear hr hv hk hbr
   by_cases hil : i < L.length
   ·obtain ⟨s, hs⟩ := zch hil
    obtain ⟨g, cap', hvn, hgb, hgz, x0, x1, x2⟩ := sg_at (ud HV) hs
    injection hvn with hvn1 hvn2 hvn3
    subst hvn1
    have hstep := scOf_take m L i s hs
    have hin : (i : Int) < L.length := by omega
    have hab := scOf_bound m (L.take i)
    rw [List.length_take, Nat.min_eq_left hi] at hab
    generalize scOf m (L.take i) = A at *
    obtain ⟨a1, a2, a3, a4, a5, a6, a7, a8⟩ := hab
    have HSTEP := zab hstep
    have HBLK := zab hblk
    clear hs hstep hvn2 hvn3 hblk
    have hne : Nonempty (zaf wr.heap.size wr) := zaf.some _ _
    have hlc := fun (u : zaf wr.heap.size wr) b o h => u.cell b o h
    have HAP := zab (fun (u : zaf wr.heap.size wr) => zca B m.pub _ s u.1 (by omega) ((ud HRR2).later u.2).prow)
    have HAG := zab (fun (w1 : World) (hb1 : Below wr.heap.size wr w1) (u : zaf w1.heap.size w1) => zca B m.gone _ s u.1 (by omega) ((ud HRR2).later (hb1.trans (u.2.mono hb1.size))).grow)
    rcases zey s m.gone with ⟨hm, hm2⟩ | ⟨hm, hm2⟩
    ·rw [hm] at HAG
     have HAD := zab (stepSc_gone (m := m) (a := A) hm2)
     clear hm hm2
     go_wp2_with fail
     refine zad wr.heap.size (by kernel_rfl) (by kernel_rfl) ?_
     repeat (go_big_quiet_step (first | (go_at_call 159; exact Calls.later (Nat.le_refl _) (ud HAP _))))
     refine wpQuiet_nil ?_
     rintro ⟨w4, hb4⟩
     clear hlc hne
     have y10 := (hb4.cell (p := ⟨p, 10, none⟩) hpr).trans q10
     have y0 := (hb4.cell (p := ⟨g, i * 3, none⟩) hgz).trans x0
     have y1 := (hb4.cell (p := ⟨g, i * 3 + 1, none⟩) hgz).trans x1
     have y2 := (hb4.cell (p := ⟨g, i * 3 + 2, none⟩) hgz).trans x2
     have hg4 : g < w4.heap.size := Nat.lt_of_lt_of_le hgz hb4.size
     have hp4 : p < w4.heap.size := Nat.lt_of_lt_of_le hpr hb4.size
     have hne : Nonempty (zaf w4.heap.size w4) := zaf.some _ _
     have hlc := fun (u : zaf w4.heap.size w4) b o h => u.cell b o h
     dsimp only
     go_wp2_with fail
     refine zad w4.heap.size (by kernel_rfl) (by kernel_rfl) ?_
     repeat (go_big_quiet_step (first | (go_at_call 159; exact Calls.later (Nat.le_refl _) (ud HAG w4 hb4 _))))
     refine wpQuiet_nil ?_
     rintro ⟨w5, hb5⟩
     clear hlc hne
     have hb45 : Below wr.heap.size wr w5 := hb4.trans (hb5.mono hb4.size)
     have z0 := (hb5.cell (p := ⟨g, i * 3, none⟩) hg4).trans y0
     have hg5 : g < w5.heap.size := Nat.lt_of_lt_of_le hg4 hb5.size
     have FBK := zab ((hb45.block _ hzs).trans (ud HBLK))
     have FK := zab (zcm (ud HK) hb45)
     obtain ⟨e0, e1, e2, e3, e4, e5, e6, e7, e8⟩ := st_cells (ud FBK)
     clear y0 y1 y2 x0 x1 x2 y10
     dsimp only
     go_wp2_with fail
     go_roundw
     case rel => exact ⟨i + 1, by omega, by go_num, by rw [ud HSTEP, ud HAD]; exact st_7 (ud FBK) _, zag (ud FK) rfl⟩
     case measure => simp [intOf]; omega
    ·rw [hm] at HAG
     by_cases hraw : s.t = -1
     ·have HAD := zab (stepSc_held (m := m) (a := A) hm2 hraw)
      have hrb : (s.t == -1) = true := by simp [hraw]
      clear hm hm2 hraw
      go_wp2_with fail
      refine zad wr.heap.size (by kernel_rfl) (by kernel_rfl) ?_
      repeat (go_big_quiet_step (first | (go_at_call 159; exact Calls.later (Nat.le_refl _) (ud HAP _))))
      refine wpQuiet_nil ?_
      rintro ⟨w4, hb4⟩
      clear hlc hne
      have y10 := (hb4.cell (p := ⟨p, 10, none⟩) hpr).trans q10
      have y0 := (hb4.cell (p := ⟨g, i * 3, none⟩) hgz).trans x0
      have y1 := (hb4.cell (p := ⟨g, i * 3 + 1, none⟩) hgz).trans x1
      have y2 := (hb4.cell (p := ⟨g, i * 3 + 2, none⟩) hgz).trans x2
      have hg4 : g < w4.heap.size := Nat.lt_of_lt_of_le hgz hb4.size
      have hp4 : p < w4.heap.size := Nat.lt_of_lt_of_le hpr hb4.size
      have hne : Nonempty (zaf w4.heap.size w4) := zaf.some _ _
      have hlc := fun (u : zaf w4.heap.size w4) b o h => u.cell b o h
      dsimp only
      go_wp2_with fail
      refine zad w4.heap.size (by kernel_rfl) (by kernel_rfl) ?_
      repeat (go_big_quiet_step (first | (go_at_call 159; exact Calls.later (Nat.le_refl _) (ud HAG w4 hb4 _))))
      refine wpQuiet_nil ?_
      rintro ⟨w5, hb5⟩
      clear hlc hne
      have hb45 : Below wr.heap.size wr w5 := hb4.trans (hb5.mono hb4.size)
      have z0 := (hb5.cell (p := ⟨g, i * 3, none⟩) hg4).trans y0
      have hg5 : g < w5.heap.size := Nat.lt_of_lt_of_le hg4 hb5.size
      have FBK := zab ((hb45.block _ hzs).trans (ud HBLK))
      have FK := zab (zcm (ud HK) hb45)
      obtain ⟨e0, e1, e2, e3, e4, e5, e6, e7, e8⟩ := st_cells (ud FBK)
      clear y0 y1 y2 x0 x1 x2 y10
      dsimp only
      go_wp2_with fail
      go_roundw
      case rel => exact ⟨i + 1, by omega, by go_num, by rw [ud HSTEP, ud HAD]; exact st_4 (ud FBK) _, zag (ud FK) rfl⟩
      case measure => simp [intOf]; omega
     ·have hrb : (s.t == -1) = false := by simp [hraw]
      rcases zey s m.pub with ⟨hp1, hp2⟩ | ⟨hp1, hp2⟩
      ·rw [hp1] at HAP
       have HAD := zab (stepSc_pub (m := m) (a := A) hm2 hraw hp2)
       clear hm hm2 hraw hp1 hp2
       go_wp2_with fail
       refine zad wr.heap.size (by kernel_rfl) (by kernel_rfl) ?_
       repeat (go_big_quiet_step (first | (go_at_call 159; exact Calls.later (Nat.le_refl _) (ud HAP _))))
       refine wpQuiet_nil ?_
       rintro ⟨w4, hb4⟩
       clear hlc hne
       have y10 := (hb4.cell (p := ⟨p, 10, none⟩) hpr).trans q10
       have y0 := (hb4.cell (p := ⟨g, i * 3, none⟩) hgz).trans x0
       have y1 := (hb4.cell (p := ⟨g, i * 3 + 1, none⟩) hgz).trans x1
       have y2 := (hb4.cell (p := ⟨g, i * 3 + 2, none⟩) hgz).trans x2
       have hg4 : g < w4.heap.size := Nat.lt_of_lt_of_le hgz hb4.size
       have hp4 : p < w4.heap.size := Nat.lt_of_lt_of_le hpr hb4.size
       have hne : Nonempty (zaf w4.heap.size w4) := zaf.some _ _
       have hlc := fun (u : zaf w4.heap.size w4) b o h => u.cell b o h
       dsimp only
       go_wp2_with fail
       refine zad w4.heap.size (by kernel_rfl) (by kernel_rfl) ?_
       repeat (go_big_quiet_step (first | (go_at_call 159; exact Calls.later (Nat.le_refl _) (ud HAG w4 hb4 _))))
       refine wpQuiet_nil ?_
       rintro ⟨w5, hb5⟩
       clear hlc hne
       have hb45 : Below wr.heap.size wr w5 := hb4.trans (hb5.mono hb4.size)
       have z0 := (hb5.cell (p := ⟨g, i * 3, none⟩) hg4).trans y0
       have hg5 : g < w5.heap.size := Nat.lt_of_lt_of_le hg4 hb5.size
       have FBK := zab ((hb45.block _ hzs).trans (ud HBLK))
       have FK := zab (zcm (ud HK) hb45)
       obtain ⟨e0, e1, e2, e3, e4, e5, e6, e7, e8⟩ := st_cells (ud FBK)
       clear y0 y1 y2 x0 x1 x2 y10
       dsimp only
       go_wp2_with fail
       go_roundw
       case rel => exact ⟨i + 1, by omega, by go_num, by rw [ud HSTEP, ud HAD]; exact st_6 (ud FBK) _, zag (ud FK) rfl⟩
       case measure => simp [intOf]; omega
      ·rw [hp1] at HAP
       have HAD := zab (stepSc_wait (m := m) (a := A) hm2 hraw hp2)
       clear hm hm2 hraw hp1 hp2
       go_wp2_with fail
       refine zad wr.heap.size (by kernel_rfl) (by kernel_rfl) ?_
       repeat (go_big_quiet_step (first | (go_at_call 159; exact Calls.later (Nat.le_refl _) (ud HAP _))))
       refine wpQuiet_nil ?_
       rintro ⟨w4, hb4⟩
       clear hlc hne
       have y10 := (hb4.cell (p := ⟨p, 10, none⟩) hpr).trans q10
       have y0 := (hb4.cell (p := ⟨g, i * 3, none⟩) hgz).trans x0
       have y1 := (hb4.cell (p := ⟨g, i * 3 + 1, none⟩) hgz).trans x1
       have y2 := (hb4.cell (p := ⟨g, i * 3 + 2, none⟩) hgz).trans x2
       have hg4 : g < w4.heap.size := Nat.lt_of_lt_of_le hgz hb4.size
       have hp4 : p < w4.heap.size := Nat.lt_of_lt_of_le hpr hb4.size
       have hne : Nonempty (zaf w4.heap.size w4) := zaf.some _ _
       have hlc := fun (u : zaf w4.heap.size w4) b o h => u.cell b o h
       dsimp only
       go_wp2_with fail
       refine zad w4.heap.size (by kernel_rfl) (by kernel_rfl) ?_
       repeat (go_big_quiet_step (first | (go_at_call 159; exact Calls.later (Nat.le_refl _) (ud HAG w4 hb4 _))))
       refine wpQuiet_nil ?_
       rintro ⟨w5, hb5⟩
       clear hlc hne
       have hb45 : Below wr.heap.size wr w5 := hb4.trans (hb5.mono hb4.size)
       have z0 := (hb5.cell (p := ⟨g, i * 3, none⟩) hg4).trans y0
       have hg5 : g < w5.heap.size := Nat.lt_of_lt_of_le hg4 hb5.size
       have FBK := zab ((hb45.block _ hzs).trans (ud HBLK))
       have FK := zab (zcm (ud HK) hb45)
       obtain ⟨e0, e1, e2, e3, e4, e5, e6, e7, e8⟩ := st_cells (ud FBK)
       clear y0 y1 y2 x0 x1 x2 y10
       dsimp only
       go_wp2_with fail
       go_roundw
       case rel => exact ⟨i + 1, by omega, by go_num, by rw [ud HSTEP, ud HAD]; exact st_5 (ud FBK) _, zag (ud FK) rfl⟩
       case measure => simp [intOf]; omega
   ·have hii : i = L.length := by omega
    rw [hii, List.take_length] at hblk
    obtain ⟨e0, e1, e2, e3, e4, e5, e6, e7, -⟩ := st_cells hblk
    have qz := (((ud HK).block w.heap.size (by omega) (by omega)).trans (ud HZ3))
    have f0 : wr.cell? ⟨w.heap.size, 0, none⟩ = some (int i64 0) := by rw [zac qz]; rfl
    have f1 : wr.cell? ⟨w.heap.size, 1, none⟩ = some (int i64 0) := by rw [zac qz]; rfl
    have f2 : wr.cell? ⟨w.heap.size, 2, none⟩ = some (int i64 0) := by rw [zac qz]; rfl
    have f3 : wr.cell? ⟨w.heap.size, 3, none⟩ = some (int i64 0) := by rw [zac qz]; rfl
    have f4 : wr.cell? ⟨w.heap.size, 4, none⟩ = some (int i64 0) := by rw [zac qz]; rfl
    have f5 : wr.cell? ⟨w.heap.size, 5, none⟩ = some (int i64 0) := by rw [zac qz]; rfl
    have f6 : wr.cell? ⟨w.heap.size, 6, none⟩ = some (int i64 0) := by rw [zac qz]; rfl
    have f7 : wr.cell? ⟨w.heap.size, 7, none⟩ = some (int i64 0) := by rw [zac qz]; rfl
    have ff : ∀ j, wr.frozen? ⟨w.heap.size, j, none⟩ = false := fun j => zaz qz j
    have QZ := zab qz
    clear qz hblk
    generalize hA : scOf m L = A at *
    have HA := zab hA
    clear hA
    go_wp2_with fail
    have hf := set8 (ud QZ) (int i64 m.now) (int i64 m.used) (int i64 m.tightI) (int i64 m.epoch) (int i64 A.held) (int i64 A.wait) (int i64 A.pub) (int i64 A.gone)
    refine bodyPost_ret (v := .agg #[int i64 m.now, int i64 m.used, int i64 m.tightI, int i64 m.epoch, int i64 A.held, int i64 A.wait, int i64 A.pub, int i64 A.gone]) (results_cell_row Tryz.results108 _ _ w.heap.size _ _ _ _ rfl hf Tryz.underlying37 rfl (by kernel_rfl)) rfl ⟨by rw [ud HL, ud HA], ?_⟩
    refine (ud HBR).trans ?_
    repeat (refine zcu ?_ (Nat.le_refl _))
    exact Below.refl _ _
 ·rw [hti] at HT
  have HTI := zab (tightI_true hti)
  go_wp2_with fail
  refine (ud HT).mono ?_
  rintro e w2 ⟨rfl, hb2⟩
  have hbw2 : Below w.heap.size w w2 := (hbw.trans ((ud HB1).mono hbw.size)).trans (hb2.mono (hbw.trans ((ud HB1).mono hbw.size)).size)
  have hr := (ud H).later hbw2
  obtain ⟨r7, r8, r9, r10, r11, r12, r13⟩ := hr.rest
  clear r8 r9 r10 r11 r13
  have HRR := zab hr
  have hp2 := hr.lt
  clear hr
  go_wp2_with fail
  go_region
  go_wp2_with fail
  have hX0 : (w2.alloc (stObj m.now m.used 1 m.epoch ⟨0, 0, 0, 0⟩)).drew.heap[w2.heap.size]? = some (stObj m.now m.used m.tightI m.epoch ⟨0, 0, 0, 0⟩) := by rw [ud HTI]; exact zap w2 _
  have hX1 : Below w2.heap.size w2 (w2.alloc (stObj m.now m.used 1 m.epoch ⟨0, 0, 0, 0⟩)).drew := ((Below.refl _ _).alloc (Nat.le_refl _) _).drew
  have hX2 : w2.heap.size < (w2.alloc (stObj m.now m.used 1 m.epoch ⟨0, 0, 0, 0⟩)).drew.heap.size := by show _ < (w2.alloc _).heap.size; rw [zbd]; omega
  change Calls Tryz.prog _ _ (w2.alloc (stObj m.now m.used 1 m.epoch ⟨0, 0, 0, 0⟩)).drew _
  generalize (w2.alloc (stObj m.now m.used 1 m.epoch ⟨0, 0, 0, 0⟩)).drew = X at *
  generalize hL : zax m.c m.nums = L at *
  have HSG := zab (segments_any ((ud HRR).later hX1) hc (by omega) hno)
  rw [hL] at HSG
  have hzb := (hX1.block w.heap.size (by have := hbw2.size; have := hb2.size; have := (ud HB1).size; have := ud HWZ; omega)).trans ((hb2.block w.heap.size (by have := (ud HB1).size; have := ud HWZ; omega)).trans (((ud HB1).block w.heap.size (by have := ud HWZ; omega)).trans (ud B1)))
  have hw2w : w.heap.size < w2.heap.size := by have := hb2.size; have := (ud HB1).size; have := ud HWZ; omega
  have HZB := zab hzb
  have HL := zab hL
  have HX0 := zab hX0
  clear hzb hX0 hL hb2 HU HT r7 r12
  refine (ud HSG).mono ?_
  rintro e w3 ⟨v, rfl, hv3, hb3⟩
  obtain ⟨al, cl, hvl⟩ := zah hv3
  subst hvl
  have HV3 := zab hv3
  have HB3 := zab hb3
  have hbX : Below w.heap.size w X := hbw2.trans (hX1.mono hbw2.size)
  have hb03 : Below w.heap.size w w3 := hbX.trans (hb3.mono hbX.size)
  have hX3 := hb3.size
  have HZ3 := zab ((hb3.block w.heap.size (by omega)).trans (ud HZB))
  clear hv3 hb3
  go_wp2_with fail
  go_loopw [7, 8, 9] (fun y _ _ wr => ∃ (i : Nat), i <= L.length /\ y = int i64 i /\ stRel w w3 m L w2.heap.size m.used m.tightI i wr) (fun y _ _ _ => L.length - (intOf y).toNat)
  case atStart => exact ⟨0, Nat.zero_le _, rfl, ((ud HB3).block _ hX2).trans (ud HX0), zan.refl _ _⟩
  case round =>
   obtain ⟨i, hi, rfl, hblk, hk⟩ := hrel
   have hbr : Below w.heap.size w wr := hb03.trans (hk.below hb03.size (fun k e => by rw [e]; omega))
   have hr := (ud H).later hbr
   have hpr := hr.lt
   obtain ⟨q7, q8, q9, q10, q11, q12, q13⟩ := hr.rest
   clear q7 q8 q11 q12 q13
   have hzs : w2.heap.size < wr.heap.size := zaa hblk
   have hv := zae (ud HV3) hk (fun k hk2 e => by
    have := ((ud HV3).lt k hk2).1
    omega)
   have HRR2 := zab hr
   have HV := zab hv
   have HK := zab hk
   have HBR := zab hbr
   clear hr hv hk hbr
   by_cases hil : i < L.length
   ·obtain ⟨s, hs⟩ := zch hil
    obtain ⟨g, cap', hvn, hgb, hgz, x0, x1, x2⟩ := sg_at (ud HV) hs
    injection hvn with hvn1 hvn2 hvn3
    subst hvn1
    have hstep := scOf_take m L i s hs
    have hin : (i : Int) < L.length := by omega
    have hab := scOf_bound m (L.take i)
    rw [List.length_take, Nat.min_eq_left hi] at hab
    generalize scOf m (L.take i) = A at *
    obtain ⟨a1, a2, a3, a4, a5, a6, a7, a8⟩ := hab
    have HSTEP := zab hstep
    have HBLK := zab hblk
    clear hs hstep hvn2 hvn3 hblk
    have hne : Nonempty (zaf wr.heap.size wr) := zaf.some _ _
    have hlc := fun (u : zaf wr.heap.size wr) b o h => u.cell b o h
    have HAP := zab (fun (u : zaf wr.heap.size wr) => zca B m.pub _ s u.1 (by omega) ((ud HRR2).later u.2).prow)
    have HAG := zab (fun (w1 : World) (hb1 : Below wr.heap.size wr w1) (u : zaf w1.heap.size w1) => zca B m.gone _ s u.1 (by omega) ((ud HRR2).later (hb1.trans (u.2.mono hb1.size))).grow)
    rcases zey s m.gone with ⟨hm, hm2⟩ | ⟨hm, hm2⟩
    ·rw [hm] at HAG
     have HAD := zab (stepSc_gone (m := m) (a := A) hm2)
     clear hm hm2
     go_wp2_with fail
     refine zad wr.heap.size (by kernel_rfl) (by kernel_rfl) ?_
     repeat (go_big_quiet_step (first | (go_at_call 159; exact Calls.later (Nat.le_refl _) (ud HAP _))))
     refine wpQuiet_nil ?_
     rintro ⟨w4, hb4⟩
     clear hlc hne
     have y10 := (hb4.cell (p := ⟨p, 10, none⟩) hpr).trans q10
     have y0 := (hb4.cell (p := ⟨g, i * 3, none⟩) hgz).trans x0
     have y1 := (hb4.cell (p := ⟨g, i * 3 + 1, none⟩) hgz).trans x1
     have y2 := (hb4.cell (p := ⟨g, i * 3 + 2, none⟩) hgz).trans x2
     have hg4 : g < w4.heap.size := Nat.lt_of_lt_of_le hgz hb4.size
     have hp4 : p < w4.heap.size := Nat.lt_of_lt_of_le hpr hb4.size
     have hne : Nonempty (zaf w4.heap.size w4) := zaf.some _ _
     have hlc := fun (u : zaf w4.heap.size w4) b o h => u.cell b o h
     dsimp only
     go_wp2_with fail
     refine zad w4.heap.size (by kernel_rfl) (by kernel_rfl) ?_
     repeat (go_big_quiet_step (first | (go_at_call 159; exact Calls.later (Nat.le_refl _) (ud HAG w4 hb4 _))))
     refine wpQuiet_nil ?_
     rintro ⟨w5, hb5⟩
     clear hlc hne
     have hb45 : Below wr.heap.size wr w5 := hb4.trans (hb5.mono hb4.size)
     have z0 := (hb5.cell (p := ⟨g, i * 3, none⟩) hg4).trans y0
     have hg5 : g < w5.heap.size := Nat.lt_of_lt_of_le hg4 hb5.size
     have FBK := zab ((hb45.block _ hzs).trans (ud HBLK))
     have FK := zab (zcm (ud HK) hb45)
     obtain ⟨e0, e1, e2, e3, e4, e5, e6, e7, e8⟩ := st_cells (ud FBK)
     clear y0 y1 y2 x0 x1 x2 y10
     dsimp only
     go_wp2_with fail
     go_roundw
     case rel => exact ⟨i + 1, by omega, by go_num, by rw [ud HSTEP, ud HAD]; exact st_7 (ud FBK) _, zag (ud FK) rfl⟩
     case measure => simp [intOf]; omega
    ·rw [hm] at HAG
     by_cases hraw : s.t = -1
     ·have HAD := zab (stepSc_held (m := m) (a := A) hm2 hraw)
      have hrb : (s.t == -1) = true := by simp [hraw]
      clear hm hm2 hraw
      go_wp2_with fail
      refine zad wr.heap.size (by kernel_rfl) (by kernel_rfl) ?_
      repeat (go_big_quiet_step (first | (go_at_call 159; exact Calls.later (Nat.le_refl _) (ud HAP _))))
      refine wpQuiet_nil ?_
      rintro ⟨w4, hb4⟩
      clear hlc hne
      have y10 := (hb4.cell (p := ⟨p, 10, none⟩) hpr).trans q10
      have y0 := (hb4.cell (p := ⟨g, i * 3, none⟩) hgz).trans x0
      have y1 := (hb4.cell (p := ⟨g, i * 3 + 1, none⟩) hgz).trans x1
      have y2 := (hb4.cell (p := ⟨g, i * 3 + 2, none⟩) hgz).trans x2
      have hg4 : g < w4.heap.size := Nat.lt_of_lt_of_le hgz hb4.size
      have hp4 : p < w4.heap.size := Nat.lt_of_lt_of_le hpr hb4.size
      have hne : Nonempty (zaf w4.heap.size w4) := zaf.some _ _
      have hlc := fun (u : zaf w4.heap.size w4) b o h => u.cell b o h
      dsimp only
      go_wp2_with fail
      refine zad w4.heap.size (by kernel_rfl) (by kernel_rfl) ?_
      repeat (go_big_quiet_step (first | (go_at_call 159; exact Calls.later (Nat.le_refl _) (ud HAG w4 hb4 _))))
      refine wpQuiet_nil ?_
      rintro ⟨w5, hb5⟩
      clear hlc hne
      have hb45 : Below wr.heap.size wr w5 := hb4.trans (hb5.mono hb4.size)
      have z0 := (hb5.cell (p := ⟨g, i * 3, none⟩) hg4).trans y0
      have hg5 : g < w5.heap.size := Nat.lt_of_lt_of_le hg4 hb5.size
      have FBK := zab ((hb45.block _ hzs).trans (ud HBLK))
      have FK := zab (zcm (ud HK) hb45)
      obtain ⟨e0, e1, e2, e3, e4, e5, e6, e7, e8⟩ := st_cells (ud FBK)
      clear y0 y1 y2 x0 x1 x2 y10
      dsimp only
      go_wp2_with fail
      go_roundw
      case rel => exact ⟨i + 1, by omega, by go_num, by rw [ud HSTEP, ud HAD]; exact st_4 (ud FBK) _, zag (ud FK) rfl⟩
      case measure => simp [intOf]; omega
     ·have hrb : (s.t == -1) = false := by simp [hraw]
      rcases zey s m.pub with ⟨hp1, hp2⟩ | ⟨hp1, hp2⟩
      ·rw [hp1] at HAP
       have HAD := zab (stepSc_pub (m := m) (a := A) hm2 hraw hp2)
       clear hm hm2 hraw hp1 hp2
       go_wp2_with fail
       refine zad wr.heap.size (by kernel_rfl) (by kernel_rfl) ?_
       repeat (go_big_quiet_step (first | (go_at_call 159; exact Calls.later (Nat.le_refl _) (ud HAP _))))
       refine wpQuiet_nil ?_
       rintro ⟨w4, hb4⟩
       clear hlc hne
       have y10 := (hb4.cell (p := ⟨p, 10, none⟩) hpr).trans q10
       have y0 := (hb4.cell (p := ⟨g, i * 3, none⟩) hgz).trans x0
       have y1 := (hb4.cell (p := ⟨g, i * 3 + 1, none⟩) hgz).trans x1
       have y2 := (hb4.cell (p := ⟨g, i * 3 + 2, none⟩) hgz).trans x2
       have hg4 : g < w4.heap.size := Nat.lt_of_lt_of_le hgz hb4.size
       have hp4 : p < w4.heap.size := Nat.lt_of_lt_of_le hpr hb4.size
       have hne : Nonempty (zaf w4.heap.size w4) := zaf.some _ _
       have hlc := fun (u : zaf w4.heap.size w4) b o h => u.cell b o h
       dsimp only
       go_wp2_with fail
       refine zad w4.heap.size (by kernel_rfl) (by kernel_rfl) ?_
       repeat (go_big_quiet_step (first | (go_at_call 159; exact Calls.later (Nat.le_refl _) (ud HAG w4 hb4 _))))
       refine wpQuiet_nil ?_
       rintro ⟨w5, hb5⟩
       clear hlc hne
       have hb45 : Below wr.heap.size wr w5 := hb4.trans (hb5.mono hb4.size)
       have z0 := (hb5.cell (p := ⟨g, i * 3, none⟩) hg4).trans y0
       have hg5 : g < w5.heap.size := Nat.lt_of_lt_of_le hg4 hb5.size
       have FBK := zab ((hb45.block _ hzs).trans (ud HBLK))
       have FK := zab (zcm (ud HK) hb45)
       obtain ⟨e0, e1, e2, e3, e4, e5, e6, e7, e8⟩ := st_cells (ud FBK)
       clear y0 y1 y2 x0 x1 x2 y10
       dsimp only
       go_wp2_with fail
       go_roundw
       case rel => exact ⟨i + 1, by omega, by go_num, by rw [ud HSTEP, ud HAD]; exact st_6 (ud FBK) _, zag (ud FK) rfl⟩
       case measure => simp [intOf]; omega
      ·rw [hp1] at HAP
       have HAD := zab (stepSc_wait (m := m) (a := A) hm2 hraw hp2)
       clear hm hm2 hraw hp1 hp2
       go_wp2_with fail
       refine zad wr.heap.size (by kernel_rfl) (by kernel_rfl) ?_
       repeat (go_big_quiet_step (first | (go_at_call 159; exact Calls.later (Nat.le_refl _) (ud HAP _))))
       refine wpQuiet_nil ?_
       rintro ⟨w4, hb4⟩
       clear hlc hne
       have y10 := (hb4.cell (p := ⟨p, 10, none⟩) hpr).trans q10
       have y0 := (hb4.cell (p := ⟨g, i * 3, none⟩) hgz).trans x0
       have y1 := (hb4.cell (p := ⟨g, i * 3 + 1, none⟩) hgz).trans x1
       have y2 := (hb4.cell (p := ⟨g, i * 3 + 2, none⟩) hgz).trans x2
       have hg4 : g < w4.heap.size := Nat.lt_of_lt_of_le hgz hb4.size
       have hp4 : p < w4.heap.size := Nat.lt_of_lt_of_le hpr hb4.size
       have hne : Nonempty (zaf w4.heap.size w4) := zaf.some _ _
       have hlc := fun (u : zaf w4.heap.size w4) b o h => u.cell b o h
       dsimp only
       go_wp2_with fail
       refine zad w4.heap.size (by kernel_rfl) (by kernel_rfl) ?_
       repeat (go_big_quiet_step (first | (go_at_call 159; exact Calls.later (Nat.le_refl _) (ud HAG w4 hb4 _))))
       refine wpQuiet_nil ?_
       rintro ⟨w5, hb5⟩
       clear hlc hne
       have hb45 : Below wr.heap.size wr w5 := hb4.trans (hb5.mono hb4.size)
       have z0 := (hb5.cell (p := ⟨g, i * 3, none⟩) hg4).trans y0
       have hg5 : g < w5.heap.size := Nat.lt_of_lt_of_le hg4 hb5.size
       have FBK := zab ((hb45.block _ hzs).trans (ud HBLK))
       have FK := zab (zcm (ud HK) hb45)
       obtain ⟨e0, e1, e2, e3, e4, e5, e6, e7, e8⟩ := st_cells (ud FBK)
       clear y0 y1 y2 x0 x1 x2 y10
       dsimp only
       go_wp2_with fail
       go_roundw
       case rel => exact ⟨i + 1, by omega, by go_num, by rw [ud HSTEP, ud HAD]; exact st_5 (ud FBK) _, zag (ud FK) rfl⟩
       case measure => simp [intOf]; omega
   ·have hii : i = L.length := by omega
    rw [hii, List.take_length] at hblk
    obtain ⟨e0, e1, e2, e3, e4, e5, e6, e7, -⟩ := st_cells hblk
    have qz := (((ud HK).block w.heap.size (by omega) (by omega)).trans (ud HZ3))
    have f0 : wr.cell? ⟨w.heap.size, 0, none⟩ = some (int i64 0) := by rw [zac qz]; rfl
    have f1 : wr.cell? ⟨w.heap.size, 1, none⟩ = some (int i64 0) := by rw [zac qz]; rfl
    have f2 : wr.cell? ⟨w.heap.size, 2, none⟩ = some (int i64 0) := by rw [zac qz]; rfl
    have f3 : wr.cell? ⟨w.heap.size, 3, none⟩ = some (int i64 0) := by rw [zac qz]; rfl
    have f4 : wr.cell? ⟨w.heap.size, 4, none⟩ = some (int i64 0) := by rw [zac qz]; rfl
    have f5 : wr.cell? ⟨w.heap.size, 5, none⟩ = some (int i64 0) := by rw [zac qz]; rfl
    have f6 : wr.cell? ⟨w.heap.size, 6, none⟩ = some (int i64 0) := by rw [zac qz]; rfl
    have f7 : wr.cell? ⟨w.heap.size, 7, none⟩ = some (int i64 0) := by rw [zac qz]; rfl
    have ff : ∀ j, wr.frozen? ⟨w.heap.size, j, none⟩ = false := fun j => zaz qz j
    have QZ := zab qz
    clear qz hblk
    generalize hA : scOf m L = A at *
    have HA := zab hA
    clear hA
    go_wp2_with fail
    have hf := set8 (ud QZ) (int i64 m.now) (int i64 m.used) (int i64 m.tightI) (int i64 m.epoch) (int i64 A.held) (int i64 A.wait) (int i64 A.pub) (int i64 A.gone)
    refine bodyPost_ret (v := .agg #[int i64 m.now, int i64 m.used, int i64 m.tightI, int i64 m.epoch, int i64 A.held, int i64 A.wait, int i64 A.pub, int i64 A.gone]) (results_cell_row Tryz.results108 _ _ w.heap.size _ _ _ _ rfl hf Tryz.underlying37 rfl (by kernel_rfl)) rfl ⟨by rw [ud HL, ud HA], ?_⟩
    refine (ud HBR).trans ?_
    repeat (refine zcu ?_ (Nat.le_refl _))
    exact Below.refl _ _
theorem zak {P : Program} {fn : Func} {p u : Tmp} {ty : TypeId} (h : fn.results = #[.cell p ty, .tmp u]) (tmps : Array Value) (w : World) (g : Nat) (t : TypeId) (cs : Array Value) (fr : Nat × Nat) (d : TypeDesc) (x : Value)
  (hp : tmps.getD p undef = .pointer (some ⟨g, 0, none⟩)) (hx : tmps.getD u undef = x) (hg : w.heap[g]? = some (.cells cs t fr))
  (hu : P.underlying ty = some d) (hd : (match d with | .struct _ | .array _ _ => true | _ => false) = true) (hi : (P.info? ty).map (·.size) = some cs.size) :
  (results fn tmps).run P w = .ok (.tuple #[.agg cs, x]) w := by
 rw [results_cell_tmp h, hp, hx]
 simp [asAddr, run_loadVar_row w g t ty cs fr d hg hu hd hi, Result.andThen]
def RM.query (m : RM) (t ser win : Int) : Cl × Int :=
 if t < -1 \/ m.c.n <= t \/ ser < 0 \/ 4 <= ser \/ win < 0 \/ 100000 < win then (⟨0, 0, 0, 0⟩, 2)
 else if m.now - m.c.la < m.c.end ⟨t, ser, win⟩ then (⟨0, 0, 0, 0⟩, 9)
 else if (zbs m.c ⟨t, ser, win⟩ m.nums).cnt = 0 then (⟨0, 0, 0, 0⟩, 10)
 else if (⟨t, ser, win⟩ : Sg) ∈ m.gone then (⟨0, 0, 0, 0⟩, 12)
 else if 0 <= t /\ ¬ (⟨t, ser, win⟩ : Sg) ∈ m.pub then (⟨0, 0, 0, 0⟩, 11)
 else (zbs m.c ⟨t, ser, win⟩ m.nums, 0)
theorem query_bad {m : RM} {t ser win : Int} (h : t < -1 \/ m.c.n <= t \/ ser < 0 \/ 4 <= ser \/ win < 0 \/ 100000 < win) : m.query t ser win = (⟨0, 0, 0, 0⟩, 2) := by simp [RM.query, h]
theorem query_open {m : RM} {t ser win : Int} (h : ¬ (t < -1 \/ m.c.n <= t \/ ser < 0 \/ 4 <= ser \/ win < 0 \/ 100000 < win)) (h1 : m.now - m.c.la < m.c.end ⟨t, ser, win⟩) : m.query t ser win = (⟨0, 0, 0, 0⟩, 9) := by
 unfold RM.query; rw [if_neg h, if_pos h1]
theorem query_empty {m : RM} {t ser win : Int} (h : ¬ (t < -1 \/ m.c.n <= t \/ ser < 0 \/ 4 <= ser \/ win < 0 \/ 100000 < win)) (h1 : ¬ m.now - m.c.la < m.c.end ⟨t, ser, win⟩) (h2 : (zbs m.c ⟨t, ser, win⟩ m.nums).cnt = 0) : m.query t ser win = (⟨0, 0, 0, 0⟩, 10) := by
 unfold RM.query; rw [if_neg h, if_neg h1, if_pos h2]
theorem query_gone {m : RM} {t ser win : Int} (h : ¬ (t < -1 \/ m.c.n <= t \/ ser < 0 \/ 4 <= ser \/ win < 0 \/ 100000 < win)) (h1 : ¬ m.now - m.c.la < m.c.end ⟨t, ser, win⟩) (h2 : ¬ (zbs m.c ⟨t, ser, win⟩ m.nums).cnt = 0) (h3 : (⟨t, ser, win⟩ : Sg) ∈ m.gone) : m.query t ser win = (⟨0, 0, 0, 0⟩, 12) := by
 unfold RM.query; rw [if_neg h, if_neg h1, if_neg h2, if_pos h3]
theorem query_wait {m : RM} {t ser win : Int} (h : ¬ (t < -1 \/ m.c.n <= t \/ ser < 0 \/ 4 <= ser \/ win < 0 \/ 100000 < win)) (h1 : ¬ m.now - m.c.la < m.c.end ⟨t, ser, win⟩) (h2 : ¬ (zbs m.c ⟨t, ser, win⟩ m.nums).cnt = 0) (h3 : ¬ (⟨t, ser, win⟩ : Sg) ∈ m.gone) (h4 : 0 <= t /\ ¬ (⟨t, ser, win⟩ : Sg) ∈ m.pub) : m.query t ser win = (⟨0, 0, 0, 0⟩, 11) := by
 unfold RM.query; rw [if_neg h, if_neg h1, if_neg h2, if_neg h3, if_pos h4]
theorem query_ok {m : RM} {t ser win : Int} (h : ¬ (t < -1 \/ m.c.n <= t \/ ser < 0 \/ 4 <= ser \/ win < 0 \/ 100000 < win)) (h1 : ¬ m.now - m.c.la < m.c.end ⟨t, ser, win⟩) (h2 : ¬ (zbs m.c ⟨t, ser, win⟩ m.nums).cnt = 0) (h3 : ¬ (⟨t, ser, win⟩ : Sg) ∈ m.gone) (h4 : ¬ (0 <= t /\ ¬ (⟨t, ser, win⟩ : Sg) ∈ m.pub)) : m.query t ser win = (zbs m.c ⟨t, ser, win⟩ m.nums, 0) := by
 unfold RM.query; rw [if_neg h, if_neg h1, if_neg h2, if_neg h3, if_neg h4]
def clV (A : Cl) : Value := .agg #[int i64 A.cnt, int i64 A.sum, .int .i32 A.mn, .int .i32 A.mx]
theorem zdu {m : RM} {t ser win : Int} {A : Cl} {x : Int} (h : m.query t ser win = (A, x)) : Ending.returned (.tuple #[.agg #[int i64 A.cnt, int i64 A.sum, .int .i32 A.mn, .int .i32 A.mx], int i64 x]) = .returned (.tuple #[clV (m.query t ser win).1, int i64 (m.query t ser win).2]) := by rw [h]; rfl
set_option maxHeartbeats 4000000 in
theorem rquery_any {B : Nat} {w : World} {p : Nat} {m : RM} {tv nv pv gv kv : Value} (h : zbk B w p m tv nv pv gv kv) (hc : m.c.ok) (hnl : m.nums.length <= 1000000000) (hgl : m.gone.length <= 1000000000000) (hpl : m.pub.length <= 1000000000000) (hno : ∀ x ∈ m.nums, x.ok) (hnow : 0 <= m.now /\ m.now <= 100000) (t ser win : Int) :
  Calls Tryz.prog 107 #[.pointer (some ⟨p, 0, none⟩), int i64 t, int i64 ser, int i64 win] w fun e w' => e = .returned (.tuple #[clV (m.query t ser win).1, int i64 (m.query t ser win).2]) /\ Below w.heap.size w w' := by
 have H := zab h
 have b1 := zap w (.cells #[int i64 0, int i64 0, .int .i32 0, .int .i32 0] 114)
 have hbw : Below w.heap.size w (w.alloc (.cells #[int i64 0, int i64 0, .int .i32 0, .int .i32 0] 114)) := (Below.refl _ _).alloc (Nat.le_refl _) _
 have hp := h.lt
 obtain ⟨at_, ct, htv⟩ := zah h.trow
 subst htv
 obtain ⟨c0, c1, c2, c3, c4, c5, c6⟩ := h.conf
 clear c0 c1 c3 c4 c5
 obtain ⟨r7, r8, r9, r10, r11, r12, r13⟩ := h.rest
 clear r8 r9 r10 r11 r12 r13
 have B1 := zab b1
 clear h b1
 by_cases hh : t < -1
 ·have HQ := zab (query_bad (m := m) (t := t) (ser := ser) (win := win) (.inl hh))
  go_enter Tryz.func107, Tryz.ntmps107
  go_wp2_with fail
  refine bodyPost_ret (v := .tuple #[.agg #[int i64 0, int i64 0, .int .i32 0, .int .i32 0], int i64 2]) (zak Tryz.results107 _ _ w.heap.size _ _ _ _ _ rfl rfl (zap w _) Tryz.underlying114 rfl (by kernel_rfl)) rfl ⟨zdu (ud HQ), hbw⟩
 have hh0 := hh
 clear hh
 by_cases hh : (m.c.n : Int) <= t
 ·have HQ := zab (query_bad (m := m) (t := t) (ser := ser) (win := win) (.inr (.inl hh)))
  go_enter Tryz.func107, Tryz.ntmps107
  go_wp2_with fail
  refine bodyPost_ret (v := .tuple #[.agg #[int i64 0, int i64 0, .int .i32 0, .int .i32 0], int i64 2]) (zak Tryz.results107 _ _ w.heap.size _ _ _ _ _ rfl rfl (zap w _) Tryz.underlying114 rfl (by kernel_rfl)) rfl ⟨zdu (ud HQ), hbw⟩
 have hh1 := hh
 clear hh
 by_cases hh : ser < 0
 ·have HQ := zab (query_bad (m := m) (t := t) (ser := ser) (win := win) (.inr (.inr (.inl hh))))
  go_enter Tryz.func107, Tryz.ntmps107
  go_wp2_with fail
  refine bodyPost_ret (v := .tuple #[.agg #[int i64 0, int i64 0, .int .i32 0, .int .i32 0], int i64 2]) (zak Tryz.results107 _ _ w.heap.size _ _ _ _ _ rfl rfl (zap w _) Tryz.underlying114 rfl (by kernel_rfl)) rfl ⟨zdu (ud HQ), hbw⟩
 have hh2 := hh
 clear hh
 by_cases hh : 4 <= ser
 ·have HQ := zab (query_bad (m := m) (t := t) (ser := ser) (win := win) (.inr (.inr (.inr (.inl hh)))))
  go_enter Tryz.func107, Tryz.ntmps107
  go_wp2_with fail
  refine bodyPost_ret (v := .tuple #[.agg #[int i64 0, int i64 0, .int .i32 0, .int .i32 0], int i64 2]) (zak Tryz.results107 _ _ w.heap.size _ _ _ _ _ rfl rfl (zap w _) Tryz.underlying114 rfl (by kernel_rfl)) rfl ⟨zdu (ud HQ), hbw⟩
 have hh3 := hh
 clear hh
 by_cases hh : win < 0
 ·have HQ := zab (query_bad (m := m) (t := t) (ser := ser) (win := win) (.inr (.inr (.inr (.inr (.inl hh))))))
  go_enter Tryz.func107, Tryz.ntmps107
  go_wp2_with fail
  refine bodyPost_ret (v := .tuple #[.agg #[int i64 0, int i64 0, .int .i32 0, .int .i32 0], int i64 2]) (zak Tryz.results107 _ _ w.heap.size _ _ _ _ _ rfl rfl (zap w _) Tryz.underlying114 rfl (by kernel_rfl)) rfl ⟨zdu (ud HQ), hbw⟩
 have hh4 := hh
 clear hh
 by_cases hh : 100000 < win
 ·have HQ := zab (query_bad (m := m) (t := t) (ser := ser) (win := win) (.inr (.inr (.inr (.inr (.inr hh))))))
  go_enter Tryz.func107, Tryz.ntmps107
  go_wp2_with fail
  refine bodyPost_ret (v := .tuple #[.agg #[int i64 0, int i64 0, .int .i32 0, .int .i32 0], int i64 2]) (zak Tryz.results107 _ _ w.heap.size _ _ _ _ _ rfl rfl (zap w _) Tryz.underlying114 rfl (by kernel_rfl)) rfl ⟨zdu (ud HQ), hbw⟩
 have hh5 := hh
 clear hh
 have hbad : ¬ (t < -1 \/ m.c.n <= t \/ ser < 0 \/ 4 <= ser \/ win < 0 \/ 100000 < win) := by omega
 have BAD := zab hbad
 clear hbad
 obtain ⟨b0, b1, hbw2, bz⟩ := box2 w (.cells #[int i64 0, int i64 0, .int .i32 0, .int .i32 0] 114) (.cells #[int i64 t, int i64 ser, int i64 win] 232)
 have ht1 : -1 <= t := by omega
 have ht2 : t < m.c.n := by omega
 have hw1 : 0 <= win := by omega
 have hw2 : win <= 100000 := by omega
 have hla := hc.la
 have HEND := zab (end_any ((ud H).later hbw2) hc ⟨t, ser, win⟩ ht1 ht2 hw1 hw2)
 have heb := hc.ends (s := ⟨t, ser, win⟩) ht1 ht2 hw1 hw2
 obtain ⟨heb1, heb2⟩ := heb
 obtain ⟨sg, hsg⟩ : ∃ sg : Sg, sg = ⟨t, ser, win⟩ := ⟨_, rfl⟩
 have B0 := zab b0
 have B1 := zab b1
 have BZ := zab bz
 clear b0 b1 bz
 go_enter Tryz.func107, Tryz.ntmps107
 go_wp2_with fail
 generalize hW : ((w.alloc (.cells #[int i64 0, int i64 0, .int .i32 0, .int .i32 0] 114)).alloc (.cells #[int i64 t, int i64 ser, int i64 win] 232)) = W at *
 refine (ud HEND).mono ?_
 rintro e w1 ⟨rfl, hb1⟩
 have hpw := hp
 have d2 : w1.cell? ⟨p, 2, none⟩ = some (int i64 m.c.la) := ((hbw2.trans (hb1.mono hbw2.size)).cell (p := ⟨p, 2, none⟩) hp).trans c2
 have d7 : w1.cell? ⟨p, 7, none⟩ = some (int i64 m.now) := ((hbw2.trans (hb1.mono hbw2.size)).cell (p := ⟨p, 7, none⟩) hp).trans r7
 have hp1 : p < w1.heap.size := Nat.lt_of_lt_of_le hp (hbw2.trans (hb1.mono hbw2.size)).size
 have hne : Nonempty (zaf w1.heap.size w1) := zaf.some _ _
 have hlc := fun (u : zaf w1.heap.size w1) b o h => u.cell b o h
 have HB1 := zab hb1
 clear c2 r7 c6 hb1 hsg sg
 by_cases ho : m.now - m.c.la < m.c.end ⟨t, ser, win⟩
 ·have HQ := zab (query_open (ud BAD) ho)
  go_wp2_with fail
  refine zad w1.heap.size (by kernel_rfl) (by kernel_rfl) ?_
  repeat (go_big_quiet_step (fail))
  refine wpQuiet_nil ?_
  rintro ⟨w2, hb2⟩
  dsimp only
  clear hlc hne
  have FB := zab ((ud HB1).trans (hb2.mono (ud HB1).size))
  have qz := ((ud FB).block w.heap.size (by have := ud BZ; omega)).trans (ud B0)
  have f0 : w2.cell? ⟨w.heap.size, 0, none⟩ = some (int i64 0) := by rw [zac qz]; rfl
  have f1 : w2.cell? ⟨w.heap.size, 1, none⟩ = some (int i64 0) := by rw [zac qz]; rfl
  have f2 : w2.cell? ⟨w.heap.size, 2, none⟩ = some (.int .i32 0) := by rw [zac qz]; rfl
  have f3 : w2.cell? ⟨w.heap.size, 3, none⟩ = some (.int .i32 0) := by rw [zac qz]; rfl
  have ff : ∀ j, w2.frozen? ⟨w.heap.size, j, none⟩ = false := fun j => zaz qz j
  have hzz : w.heap.size < w2.heap.size := zaa qz
  have QZ := zab qz
  clear qz
  go_wp2_with fail
  have hf := set4 (ud QZ) (int i64 0) (int i64 0) (.int .i32 0) (.int .i32 0)
  refine bodyPost_ret (v := .tuple #[.agg #[int i64 0, int i64 0, .int .i32 0, .int .i32 0], int i64 9]) (zak Tryz.results107 _ _ w.heap.size _ _ _ _ _ rfl rfl hf Tryz.underlying114 rfl (by kernel_rfl)) rfl ⟨zdu (ud HQ), ?_⟩
  refine (hbw2.trans ((ud FB).mono hbw2.size)).trans ?_
  repeat (refine zcu ?_ (Nat.le_refl _))
  exact Below.refl _ _
 ·go_wp2_with fail
  refine zad w1.heap.size (by kernel_rfl) (by kernel_rfl) ?_
  repeat (go_big_quiet_step (fail))
  refine wpQuiet_nil ?_
  rintro ⟨w2, hb2⟩
  dsimp only
  clear hlc hne
  have HB2 := zab ((ud HB1).trans (hb2.mono (ud HB1).size))
  have q := ((ud HB2).block (w.heap.size + 1) (by have := ud BZ; omega)).trans (ud B1)
  have s0 : w2.cell? ⟨w.heap.size + 1, 0, none⟩ = some (int i64 t) := by rw [zac q]; rfl
  have s1 : w2.cell? ⟨w.heap.size + 1, 1, none⟩ = some (int i64 ser) := by rw [zac q]; rfl
  have s2 : w2.cell? ⟨w.heap.size + 1, 2, none⟩ = some (int i64 win) := by rw [zac q]; rfl
  have hb02 := hbw2.trans ((ud HB2).mono hbw2.size)
  have HCE := zab (cell_any ((ud H).later hb02) hc hnl hno ⟨t, ser, win⟩ ht1 ht2)
  clear q d2 d7 hb2 HB1
  go_wp2_with fail
  refine (ud HCE).mono ?_
  rintro e w3 ⟨rfl, hb3⟩
  have hbx : ∀ o, Below w2.heap.size w2 (w3.alloc o) := fun o => hb3.alloc hb3.size o
  have hy0 : ∀ o, (w3.alloc o).heap[w3.heap.size]? = some o := fun o => zap w3 o
  have hyz : ∀ o, w3.heap.size < (w3.alloc o).heap.size := fun o => by rw [zbd]; omega
  have hcb := cellOf_bound (c := m.c) (s := ⟨t, ser, win⟩) (nums := m.nums) hno
  have HQA : Hid (∀ A, A = zbs m.c ⟨t, ser, win⟩ m.nums -> (A.cnt = 0 -> m.query t ser win = (⟨0, 0, 0, 0⟩, 10)) /\ (¬ A.cnt = 0 -> (⟨t, ser, win⟩ : Sg) ∈ m.gone -> m.query t ser win = (⟨0, 0, 0, 0⟩, 12)) /\ (¬ A.cnt = 0 -> ¬ (⟨t, ser, win⟩ : Sg) ∈ m.gone -> (0 <= t /\ ¬ (⟨t, ser, win⟩ : Sg) ∈ m.pub) -> m.query t ser win = (⟨0, 0, 0, 0⟩, 11)) /\ (¬ A.cnt = 0 -> ¬ (⟨t, ser, win⟩ : Sg) ∈ m.gone -> ¬ (0 <= t /\ ¬ (⟨t, ser, win⟩ : Sg) ∈ m.pub) -> m.query t ser win = (A, 0))) := fun A hA => by
   subst hA
   exact ⟨query_empty (ud BAD) (by omega), query_gone (ud BAD) (by omega), query_wait (ud BAD) (by omega), query_ok (ud BAD) (by omega)⟩
  have HQA := zab (ud HQA _ rfl)
  have hq3 : p < w3.heap.size := Nat.lt_of_lt_of_le hp (hb02.trans (hb3.mono hb02.size)).size
  generalize zbs m.c ⟨t, ser, win⟩ m.nums = A at *
  obtain ⟨hcb1, hcb2, -⟩ := hcb
  go_wp2_with fail
  have HY0 := zab (hy0 (.cells #[int i64 A.cnt, int i64 A.sum, .int .i32 A.mn, .int .i32 A.mx] 114))
  have HBX := zab (hbx (.cells #[int i64 A.cnt, int i64 A.sum, .int .i32 A.mn, .int .i32 A.mx] 114))
  have HYZ := zab (hyz (.cells #[int i64 A.cnt, int i64 A.sum, .int .i32 A.mn, .int .i32 A.mx] 114))
  clear hy0 hbx hyz s0 s1 s2
  generalize hX : (w3.alloc (.cells #[int i64 A.cnt, int i64 A.sum, .int .i32 A.mn, .int .i32 A.mx] 114)) = X at *
  clear hX
  have hb0X : Below w.heap.size w X := hb02.trans ((ud HBX).mono hb02.size)
  have HBX2 := zab ((ud HB2).trans ((ud HBX).mono (ud HB2).size))
  have q := ((ud HBX2).block (w.heap.size + 1) (by have := ud BZ; omega)).trans (ud B1)
  have s0 : X.cell? ⟨w.heap.size + 1, 0, none⟩ = some (int i64 t) := by rw [zac q]; rfl
  have s1 : X.cell? ⟨w.heap.size + 1, 1, none⟩ = some (int i64 ser) := by rw [zac q]; rfl
  have s2 : X.cell? ⟨w.heap.size + 1, 2, none⟩ = some (int i64 win) := by rw [zac q]; rfl
  have hsX : w.heap.size + 1 < X.heap.size := zaa q
  have HRX := zab ((ud H).later hb0X)
  obtain ⟨r7, r8, r9, r10, r11, r12, r13⟩ := (ud HRX).rest
  have hpX := (ud HRX).lt
  obtain ⟨ag, cg, hgv⟩ := zah (ud HRX).grow
  subst hgv
  obtain ⟨ap, cp, hpv⟩ := zah (ud HRX).prow
  subst hpv
  have HAG := zab (fun (u : zaf X.heap.size X) => zca B m.gone _ ⟨t, ser, win⟩ u.1 (by omega) ((ud HRX).later u.2).grow)
  have HAP := zab (fun (w4 : World) (hb4 : Below X.heap.size X w4) (u : zaf w4.heap.size w4) => zca B m.pub _ ⟨t, ser, win⟩ u.1 (by omega) ((ud HRX).later (hb4.trans (u.2.mono hb4.size))).prow)
  have hne : Nonempty (zaf X.heap.size X) := zaf.some _ _
  have hlc := fun (u : zaf X.heap.size X) b o h => u.cell b o h
  clear q r7 r8 r11 r12 r13 hb3 HCE hb02
  refine zad X.heap.size (by kernel_rfl) (by kernel_rfl) ?_
  repeat (go_big_quiet_step (first | (go_at_call 159; exact Calls.later (Nat.le_refl _) (ud HAG _))))
  refine wpQuiet_nil ?_
  rintro ⟨w4, hb4⟩
  dsimp only
  clear hlc hne
  have y9 := (hb4.cell (p := ⟨p, 9, none⟩) hpX).trans r9
  have y0 := (hb4.cell (p := ⟨w.heap.size + 1, 0, none⟩) hsX).trans s0
  have y1 := (hb4.cell (p := ⟨w.heap.size + 1, 1, none⟩) hsX).trans s1
  have y2 := (hb4.cell (p := ⟨w.heap.size + 1, 2, none⟩) hsX).trans s2
  have hp4 : p < w4.heap.size := Nat.lt_of_lt_of_le hpX hb4.size
  have hs4 : w.heap.size + 1 < w4.heap.size := Nat.lt_of_lt_of_le hsX hb4.size
  have hne : Nonempty (zaf w4.heap.size w4) := zaf.some _ _
  have hlc := fun (u : zaf w4.heap.size w4) b o h => u.cell b o h
  go_wp2_with fail
  refine zad w4.heap.size (by kernel_rfl) (by kernel_rfl) ?_
  repeat (go_big_quiet_step (first | (go_at_call 159; exact Calls.later (Nat.le_refl _) (ud HAP w4 hb4 _))))
  refine wpQuiet_nil ?_
  rintro ⟨w5, hb5⟩
  dsimp only
  clear hlc hne
  have hb45 : Below X.heap.size X w5 := hb4.trans (hb5.mono hb4.size)
  have FB := zab ((ud HBX2).trans (hb45.mono (ud HBX2).size))
  have qa := (hb45.block w3.heap.size (ud HYZ)).trans (ud HY0)
  have g0 : w5.cell? ⟨w3.heap.size, 0, none⟩ = some (int i64 A.cnt) := by rw [zac qa]; rfl
  have g1 : w5.cell? ⟨w3.heap.size, 1, none⟩ = some (int i64 A.sum) := by rw [zac qa]; rfl
  have g2 : w5.cell? ⟨w3.heap.size, 2, none⟩ = some (.int .i32 A.mn) := by rw [zac qa]; rfl
  have g3 : w5.cell? ⟨w3.heap.size, 3, none⟩ = some (.int .i32 A.mx) := by rw [zac qa]; rfl
  clear qa y0 y1 y2 y9 s0 s1 s2 r9 r10 hb4 hb5
  by_cases hz : A.cnt = 0
  ·have HQ := zab ((ud HQA).1 hz)
   have hzb : (A.cnt == 0) = true := by simp [hz]
   clear hz
   have qz := ((ud FB).block w.heap.size (by have := ud BZ; omega)).trans (ud B0)
   have f0 : w5.cell? ⟨w.heap.size, 0, none⟩ = some (int i64 0) := by rw [zac qz]; rfl
   have f1 : w5.cell? ⟨w.heap.size, 1, none⟩ = some (int i64 0) := by rw [zac qz]; rfl
   have f2 : w5.cell? ⟨w.heap.size, 2, none⟩ = some (.int .i32 0) := by rw [zac qz]; rfl
   have f3 : w5.cell? ⟨w.heap.size, 3, none⟩ = some (.int .i32 0) := by rw [zac qz]; rfl
   have ff : ∀ j, w5.frozen? ⟨w.heap.size, j, none⟩ = false := fun j => zaz qz j
   have hzz : w.heap.size < w5.heap.size := zaa qz
   have QZ := zab qz
   clear qz
   go_wp2_with fail
   have hf := set4 (ud QZ) (int i64 0) (int i64 0) (.int .i32 0) (.int .i32 0)
   refine bodyPost_ret (v := .tuple #[.agg #[int i64 0, int i64 0, .int .i32 0, .int .i32 0], int i64 10]) (zak Tryz.results107 _ _ w.heap.size _ _ _ _ _ rfl rfl hf Tryz.underlying114 rfl (by kernel_rfl)) rfl ⟨zdu (ud HQ), ?_⟩
   refine (hbw2.trans ((ud FB).mono hbw2.size)).trans ?_
   repeat (refine zcu ?_ (Nat.le_refl _))
   exact Below.refl _ _
  ·have hzb : (A.cnt == 0) = false := by simp [hz]
   rcases zey ⟨t, ser, win⟩ m.gone with ⟨hm, hm2⟩ | ⟨hm, hm2⟩
   ·have HQ := zab ((ud HQA).2.1 hz hm2)
    rw [hm]
    clear hz hm hm2
    have qz := ((ud FB).block w.heap.size (by have := ud BZ; omega)).trans (ud B0)
    have f0 : w5.cell? ⟨w.heap.size, 0, none⟩ = some (int i64 0) := by rw [zac qz]; rfl
    have f1 : w5.cell? ⟨w.heap.size, 1, none⟩ = some (int i64 0) := by rw [zac qz]; rfl
    have f2 : w5.cell? ⟨w.heap.size, 2, none⟩ = some (.int .i32 0) := by rw [zac qz]; rfl
    have f3 : w5.cell? ⟨w.heap.size, 3, none⟩ = some (.int .i32 0) := by rw [zac qz]; rfl
    have ff : ∀ j, w5.frozen? ⟨w.heap.size, j, none⟩ = false := fun j => zaz qz j
    have hzz : w.heap.size < w5.heap.size := zaa qz
    have QZ := zab qz
    clear qz
    go_wp2_with fail
    have hf := set4 (ud QZ) (int i64 0) (int i64 0) (.int .i32 0) (.int .i32 0)
    refine bodyPost_ret (v := .tuple #[.agg #[int i64 0, int i64 0, .int .i32 0, .int .i32 0], int i64 12]) (zak Tryz.results107 _ _ w.heap.size _ _ _ _ _ rfl rfl hf Tryz.underlying114 rfl (by kernel_rfl)) rfl ⟨zdu (ud HQ), ?_⟩
    refine (hbw2.trans ((ud FB).mono hbw2.size)).trans ?_
    repeat (refine zcu ?_ (Nat.le_refl _))
    exact Below.refl _ _
   ·by_cases hw : 0 <= t /\ ¬ (⟨t, ser, win⟩ : Sg) ∈ m.pub
    ·have HQ := zab ((ud HQA).2.2.1 hz hm2 hw)
     rw [hm, memB_false hw.2]
     have hw0 := hw.1
     clear hz hm hm2 hw
     have qz := ((ud FB).block w.heap.size (by have := ud BZ; omega)).trans (ud B0)
     have f0 : w5.cell? ⟨w.heap.size, 0, none⟩ = some (int i64 0) := by rw [zac qz]; rfl
     have f1 : w5.cell? ⟨w.heap.size, 1, none⟩ = some (int i64 0) := by rw [zac qz]; rfl
     have f2 : w5.cell? ⟨w.heap.size, 2, none⟩ = some (.int .i32 0) := by rw [zac qz]; rfl
     have f3 : w5.cell? ⟨w.heap.size, 3, none⟩ = some (.int .i32 0) := by rw [zac qz]; rfl
     have ff : ∀ j, w5.frozen? ⟨w.heap.size, j, none⟩ = false := fun j => zaz qz j
     have hzz : w.heap.size < w5.heap.size := zaa qz
     have QZ := zab qz
     clear qz
     go_wp2_with fail
     have hf := set4 (ud QZ) (int i64 0) (int i64 0) (.int .i32 0) (.int .i32 0)
     refine bodyPost_ret (v := .tuple #[.agg #[int i64 0, int i64 0, .int .i32 0, .int .i32 0], int i64 11]) (zak Tryz.results107 _ _ w.heap.size _ _ _ _ _ rfl rfl hf Tryz.underlying114 rfl (by kernel_rfl)) rfl ⟨zdu (ud HQ), ?_⟩
     refine (hbw2.trans ((ud FB).mono hbw2.size)).trans ?_
     repeat (refine zcu ?_ (Nat.le_refl _))
     exact Below.refl _ _
    ·have HQ := zab ((ud HQA).2.2.2 hz hm2 hw)
     rw [hm]
     clear hz hm2 hm
     by_cases hw0 : 0 <= t
     ·rw [memB_true (Classical.not_not.1 (fun h => hw ⟨hw0, h⟩))]
      clear hw
      have qz := ((ud FB).block w.heap.size (by have := ud BZ; omega)).trans (ud B0)
      have f0 : w5.cell? ⟨w.heap.size, 0, none⟩ = some (int i64 0) := by rw [zac qz]; rfl
      have f1 : w5.cell? ⟨w.heap.size, 1, none⟩ = some (int i64 0) := by rw [zac qz]; rfl
      have f2 : w5.cell? ⟨w.heap.size, 2, none⟩ = some (.int .i32 0) := by rw [zac qz]; rfl
      have f3 : w5.cell? ⟨w.heap.size, 3, none⟩ = some (.int .i32 0) := by rw [zac qz]; rfl
      have ff : ∀ j, w5.frozen? ⟨w.heap.size, j, none⟩ = false := fun j => zaz qz j
      have hzz : w.heap.size < w5.heap.size := zaa qz
      have QZ := zab qz
      clear qz
      go_wp2_with fail
      have hf := set4 (ud QZ) (int i64 A.cnt) (int i64 A.sum) (.int .i32 A.mn) (.int .i32 A.mx)
      refine bodyPost_ret (v := .tuple #[.agg #[int i64 A.cnt, int i64 A.sum, .int .i32 A.mn, .int .i32 A.mx], int i64 0]) (zak Tryz.results107 _ _ w.heap.size _ _ _ _ _ rfl rfl hf Tryz.underlying114 rfl (by kernel_rfl)) rfl ⟨zdu (ud HQ), ?_⟩
      refine (hbw2.trans ((ud FB).mono hbw2.size)).trans ?_
      repeat (refine zcu ?_ (Nat.le_refl _))
      exact Below.refl _ _
     ·clear hw
      have qz := ((ud FB).block w.heap.size (by have := ud BZ; omega)).trans (ud B0)
      have f0 : w5.cell? ⟨w.heap.size, 0, none⟩ = some (int i64 0) := by rw [zac qz]; rfl
      have f1 : w5.cell? ⟨w.heap.size, 1, none⟩ = some (int i64 0) := by rw [zac qz]; rfl
      have f2 : w5.cell? ⟨w.heap.size, 2, none⟩ = some (.int .i32 0) := by rw [zac qz]; rfl
      have f3 : w5.cell? ⟨w.heap.size, 3, none⟩ = some (.int .i32 0) := by rw [zac qz]; rfl
      have ff : ∀ j, w5.frozen? ⟨w.heap.size, j, none⟩ = false := fun j => zaz qz j
      have hzz : w.heap.size < w5.heap.size := zaa qz
      have QZ := zab qz
      clear qz
      go_wp2_with fail
      have hf := set4 (ud QZ) (int i64 A.cnt) (int i64 A.sum) (.int .i32 A.mn) (.int .i32 A.mx)
      refine bodyPost_ret (v := .tuple #[.agg #[int i64 A.cnt, int i64 A.sum, .int .i32 A.mn, .int .i32 A.mx], int i64 0]) (zak Tryz.results107 _ _ w.heap.size _ _ _ _ _ rfl rfl hf Tryz.underlying114 rfl (by kernel_rfl)) rfl ⟨zdu (ud HQ), ?_⟩
      refine (hbw2.trans ((ud FB).mono hbw2.size)).trans ?_
      repeat (refine zcu ?_ (Nat.le_refl _))
      exact Below.refl _ _
def onB (c : Cf) (a b : Sg) : Bool := if a.t = -1 \/ c.F a.t.toNat ≠ b.t \/ a.ser ≠ b.ser then false else (b.win * c.width b.t / c.width a.t == a.win)
theorem on_1 {c : Cf} {a b : Sg} (h : a.t = -1) : onB c a b = false := by simp [onB, h]
theorem on_2 {c : Cf} {a b : Sg} (h : c.F a.t.toNat ≠ b.t) : onB c a b = false := by simp [onB, h]
theorem on_3 {c : Cf} {a b : Sg} (h : a.ser ≠ b.ser) : onB c a b = false := by simp [onB, h]
theorem on_4 {c : Cf} {a b : Sg} (h1 : ¬ a.t = -1) (h2 : c.F a.t.toNat = b.t) (h3 : a.ser = b.ser) : onB c a b = (b.win * c.width b.t / c.width a.t == a.win) := by
 unfold onB; rw [if_neg]; rintro (h | h | h)
 ·exact h1 h
 ·exact h h2
 ·exact h h3
set_option maxHeartbeats 4000000 in
theorem on_any {B : Nat} {w : World} {p : Nat} {m : RM} {tv nv pv gv kv : Value} (h : zbk B w p m tv nv pv gv kv) (hc : m.c.ok) (a b : Sg) (ha1 : -1 <= a.t) (ha2 : a.t < m.c.n) (hb1 : -1 <= b.t) (hb2 : b.t < m.c.n) (hbw1 : 0 <= b.win) (hbw2 : b.win <= 100000) :
  Calls Tryz.prog 231 #[.pointer (some ⟨p, 0, none⟩), .agg #[int i64 a.t, int i64 a.ser, int i64 a.win], .agg #[int i64 b.t, int i64 b.ser, int i64 b.win]] w fun e w' => e = .returned (.bool (onB m.c a b)) /\ Below w.heap.size w w' := by
 obtain ⟨at_, cap, htv⟩ := zah h.trow
 subst htv
 have hn4 := hc.n4
 have hp := h.lt
 have hts := TS.of_owns h.trow
 obtain ⟨y0, y1, hbw, yz⟩ := box2 w (.cells #[int i64 a.t, int i64 a.ser, int i64 a.win] 232) (.cells #[int i64 b.t, int i64 b.ser, int i64 b.win] 232)
 have hr := h.later hbw
 have H := zab h
 obtain ⟨c0, c1, c2, c3, c4, c5, c6⟩ := hr.conf
 have hts1 := hts.below hbw
 clear h hr
 go_enter Tryz.func231, Tryz.ntmps231
 go_wp2_with fail
 generalize hW : ((w.alloc (.cells #[int i64 a.t, int i64 a.ser, int i64 a.win] 232)).alloc (.cells #[int i64 b.t, int i64 b.ser, int i64 b.win] 232)) = W at *
 clear hW
 have hp1 : p < W.heap.size := by omega
 have hz0 : w.heap.size < W.heap.size := by omega
 have hz1 : w.heap.size + 1 < W.heap.size := by omega
 have a0 : W.cell? ⟨w.heap.size, 0, none⟩ = some (int i64 a.t) := by rw [zac y0]; rfl
 have a1 : W.cell? ⟨w.heap.size, 1, none⟩ = some (int i64 a.ser) := by rw [zac y0]; rfl
 have a2 : W.cell? ⟨w.heap.size, 2, none⟩ = some (int i64 a.win) := by rw [zac y0]; rfl
 have b0 : W.cell? ⟨w.heap.size + 1, 0, none⟩ = some (int i64 b.t) := by rw [zac y1]; rfl
 have b1 : W.cell? ⟨w.heap.size + 1, 1, none⟩ = some (int i64 b.ser) := by rw [zac y1]; rfl
 have b2 : W.cell? ⟨w.heap.size + 1, 2, none⟩ = some (int i64 b.win) := by rw [zac y1]; rfl
 have YZ := zab yz
 have HBW := zab hbw
 have HTS := zab hts1
 clear y0 y1 yz hbw hts1 hts
 have hne : Nonempty (zaf W.heap.size W) := zaf.some _ _
 have hlc := fun (u : zaf W.heap.size W) b o h => u.cell b o h
 by_cases e1 : a.t = -1
 ·have HR := zab (on_1 (c := m.c) (b := b) e1)
  have e1b : (a.t == -1) = true := by simp [e1]
  clear e1
  refine zad W.heap.size (by kernel_rfl) (by kernel_rfl) ?_
  repeat (go_big_quiet_step (fail))
  refine wpQuiet_nil ?_
  rintro ⟨w1, hb1⟩
  dsimp only
  clear hlc hne
  go_wp2_with fail
  go_ret
  exact ⟨zaq (ud HR).symm, (ud HBW).trans (hb1.mono (ud HBW).size)⟩
 ·have e1b : (a.t == -1) = false := by simp [e1]
  obtain ⟨i, hi⟩ := Int.eq_ofNat_of_zero_le (show 0 <= a.t by omega)
  have hin : i < m.c.n := by omega
  obtain ⟨tb, off, hat, htz, htc⟩ := ud HTS (by omega)
  subst hat
  obtain ⟨t1, t2, t3⟩ := htc i hin
  clear htc t2 t3
  have hFi : m.c.F a.t.toNat = m.c.F i := by rw [hi]; simp
  have hai : a.t = i := hi
  have hil : (i : Int) < m.c.n := by omega
  rw [hai] at a0 e1b
  by_cases e2 : m.c.F i = b.t
  ·have e2b : (m.c.F i != b.t) = false := by simp [e2]
   by_cases e3 : a.ser = b.ser
   ·have e3b : (a.ser != b.ser) = false := by simp [e3]
    obtain ⟨wa1, wa2⟩ := hc.width ha1 ha2
    obtain ⟨wb1, wb2⟩ := hc.width hb1 hb2
    have HR := zab (on_4 (c := m.c) e1 (by rw [hFi]; exact e2) e3)
    have hm1 : 0 <= b.win * m.c.width b.t := Int.mul_nonneg hbw1 (by omega)
    have hm2 : b.win * m.c.width b.t <= 100000 * 1000 := Int.mul_le_mul hbw2 wb2 (by omega) (by omega)
    have HWA := zab (show zbr m.c.wi m.c.W a.t = m.c.width a.t from rfl)
    have HWB := zab (show zbr m.c.wi m.c.W b.t = m.c.width b.t from rfl)
    have HWI := zab (show ∀ (u : World), Below W.heap.size W u -> Calls Tryz.prog 101 #[.agg #[int i64 m.c.s, int i64 m.c.le, int i64 m.c.la, int i64 m.c.wi, int i64 m.c.ke, int i64 m.c.qu, .slice (some ⟨tb, off, none⟩) m.c.n cap], int i64 b.t] u fun e w' => e = .returned (int i64 (m.c.width b.t)) /\ Below u.heap.size u w' from fun u hu => Width_any _ _ _ _ _ _ _ _ cap m.c.F m.c.W m.c.K b.t hb1 hb2 hn4 u ((ud HTS).below hu))
    have HWJ := zab (show ∀ (u : World), Below W.heap.size W u -> Calls Tryz.prog 101 #[.agg #[int i64 m.c.s, int i64 m.c.le, int i64 m.c.la, int i64 m.c.wi, int i64 m.c.ke, int i64 m.c.qu, .slice (some ⟨tb, off, none⟩) m.c.n cap], int i64 i] u fun e w' => e = .returned (int i64 (m.c.width a.t)) /\ Below u.heap.size u w' from fun u hu => by rw [<- hai]; exact Width_any _ _ _ _ _ _ _ _ cap m.c.F m.c.W m.c.K a.t ha1 ha2 hn4 u ((ud HTS).below hu))
    clear e1 e2 e3 hFi hi hai
    refine zad W.heap.size (by kernel_rfl) (by kernel_rfl) ?_
    repeat (go_big_quiet_step (fail))
    refine wpQuiet_nil ?_
    rintro ⟨w1, hb1⟩
    dsimp only
    clear hlc hne
    have HB1 := zab hb1
    have k0 := (hb1.cell (p := ⟨p, 0, none⟩) hp1).trans c0
    have k1 := (hb1.cell (p := ⟨p, 1, none⟩) hp1).trans c1
    have k2 := (hb1.cell (p := ⟨p, 2, none⟩) hp1).trans c2
    have k3 := (hb1.cell (p := ⟨p, 3, none⟩) hp1).trans c3
    have k4 := (hb1.cell (p := ⟨p, 4, none⟩) hp1).trans c4
    have k5 := (hb1.cell (p := ⟨p, 5, none⟩) hp1).trans c5
    have k6 := (hb1.cell (p := ⟨p, 6, none⟩) hp1).trans c6
    have k7 := (hb1.cell (p := ⟨w.heap.size + 1, 0, none⟩) hz1).trans b0
    have l1 := hb1.size
    have hpw1 : p < w1.heap.size := by omega
    have hzw1 : w.heap.size + 1 < w1.heap.size := by omega
    have hne : Nonempty (zaf w1.heap.size w1) := zaf.some _ _
    have hlc := fun (u : zaf w1.heap.size w1) b o h => u.cell b o h
    go_wp2_with fail
    refine zad w1.heap.size (by kernel_rfl) (by kernel_rfl) ?_
    repeat (go_big_quiet_step (first | (go_at_call 101; exact Calls.later (Nat.le_refl _) (ud HWI _ ((ud HB1).trans (Below.mono (Subtype.property _) (ud HB1).size))))))
    refine wpQuiet_nil ?_
    rintro ⟨w2, hb2⟩
    dsimp only
    clear hlc hne k7 hb1
    have HB2 := zab ((ud HB1).trans (hb2.mono (ud HB1).size))
    have j0 := ((ud HB2).cell (p := ⟨p, 0, none⟩) hp1).trans c0
    have j1 := ((ud HB2).cell (p := ⟨p, 1, none⟩) hp1).trans c1
    have j2 := ((ud HB2).cell (p := ⟨p, 2, none⟩) hp1).trans c2
    have j3 := ((ud HB2).cell (p := ⟨p, 3, none⟩) hp1).trans c3
    have j4 := ((ud HB2).cell (p := ⟨p, 4, none⟩) hp1).trans c4
    have j5 := ((ud HB2).cell (p := ⟨p, 5, none⟩) hp1).trans c5
    have j6 := ((ud HB2).cell (p := ⟨p, 6, none⟩) hp1).trans c6
    have j7 := ((ud HB2).cell (p := ⟨w.heap.size, 0, none⟩) hz0).trans a0
    have l2 := (ud HB2).size
    have hpw2 : p < w2.heap.size := by omega
    have hzw2 : w.heap.size < w2.heap.size := by omega
    have hne : Nonempty (zaf w2.heap.size w2) := zaf.some _ _
    have hlc := fun (u : zaf w2.heap.size w2) b o h => u.cell b o h
    clear hb2
    go_wp2_with fail
    refine zad w2.heap.size (by kernel_rfl) (by kernel_rfl) ?_
    repeat (go_big_quiet_step (first | (go_at_call 101; exact Calls.later (Nat.le_refl _) (ud HWJ _ ((ud HB2).trans (Below.mono (Subtype.property _) (ud HB2).size))))))
    refine wpQuiet_nil ?_
    rintro ⟨w3, hb3⟩
    dsimp only
    clear hlc hne j7
    have HB3 := zab ((ud HB2).trans (hb3.mono (ud HB2).size))
    have m0 := ((ud HB3).cell (p := ⟨w.heap.size, 2, none⟩) hz0).trans a2
    have m1 := ((ud HB3).cell (p := ⟨w.heap.size + 1, 2, none⟩) hz1).trans b2
    have l3 := (ud HB3).size
    have hzw3 : w.heap.size < w3.heap.size := by omega
    have hyw3 : w.heap.size + 1 < w3.heap.size := by omega
    have hne : Nonempty (zaf w3.heap.size w3) := zaf.some _ _
    have hlc := fun (u : zaf w3.heap.size w3) b o h => u.cell b o h
    go_wp2_with fail
    refine zad w3.heap.size (by kernel_rfl) (by kernel_rfl) ?_
    repeat (go_big_quiet_step (fail))
    refine wpQuiet_nil ?_
    rintro ⟨w4, hb4⟩
    dsimp only
    clear hlc hne
    go_wp2_with fail
    go_ret
    exact ⟨zaq (ud HR).symm, (ud HBW).trans (((ud HB3).trans (hb4.mono (ud HB3).size)).mono (ud HBW).size)⟩
   ·have HR := zab (on_3 (c := m.c) e3)
    have e3b : (a.ser != b.ser) = true := by simp [e3]
    clear e1 e2 e3 hFi hi hai
    refine zad W.heap.size (by kernel_rfl) (by kernel_rfl) ?_
    repeat (go_big_quiet_step (fail))
    refine wpQuiet_nil ?_
    rintro ⟨w1, hb1⟩
    dsimp only
    clear hlc hne
    go_wp2_with fail
    go_ret
    exact ⟨zaq (ud HR).symm, (ud HBW).trans (hb1.mono (ud HBW).size)⟩
  ·have HR := zab (on_2 (c := m.c) (a := a) (b := b) (by rw [hFi]; exact e2))
   have e2b : (m.c.F i != b.t) = true := by simp [e2]
   clear e1 e2 hFi hi hai
   refine zad W.heap.size (by kernel_rfl) (by kernel_rfl) ?_
   repeat (go_big_quiet_step (fail))
   refine wpQuiet_nil ?_
   rintro ⟨w1, hb1⟩
   dsimp only
   clear hlc hne
   go_wp2_with fail
   go_ret
   exact ⟨zaq (ud HR).symm, (ud HBW).trans (hb1.mono (ud HBW).size)⟩
section
variable {α : Type} (lt : α -> α -> Bool)
def insBy (x : α) : List α -> List α
 | [] => [x]
 | y :: r => if lt x y then x :: y :: r else y :: insBy x r
def anyBy (x : α) (l : List α) : Bool := l.any (fun y => lt x y)
def zfa (x : α) (l : List α) : List α := if anyBy lt x l then insBy lt x l else l
theorem insBy_none {x : α} : ∀ {l : List α}, anyBy lt x l = false -> insBy lt x l = l ++ [x]
 | [], _ => rfl
 | y :: l, h => by
  simp only [anyBy, List.any_cons, Bool.or_eq_false_iff] at h
  simp [insBy, h.1, insBy_none (l := l) h.2]
theorem insBy_snoc {x : α} : ∀ {l : List α} {y : α}, anyBy lt x l = true -> insBy lt x (l ++ [y]) = insBy lt x l ++ [y]
 | [], y, h => by simp [anyBy] at h
 | z :: l, y, h => by
  rw [List.cons_append, insBy, insBy]
  by_cases e : lt x z = true
  ·simp [e]
  ·have e' : lt x z = false := by simpa using e
   rw [e']
   simp only [Bool.false_eq_true, if_false, List.cons_append]
   rw [insBy_snoc (l := l) (y := y) (by simpa [anyBy, e'] using h)]
theorem insBy_new {x : α} : ∀ {l : List α} {y : α}, anyBy lt x l = false -> lt x y = true -> insBy lt x (l ++ [y]) = l ++ [x] ++ [y]
 | [], y, _, hy => by simp [insBy, hy]
 | z :: l, y, h, hy => by
  simp only [anyBy, List.any_cons, Bool.or_eq_false_iff] at h
  simp only [List.cons_append, insBy, h.1, Bool.false_eq_true, if_false]
  rw [insBy_new (l := l) (y := y) h.2 hy]
theorem anyBy_snoc (x : α) (l : List α) (y : α) : anyBy lt x (l ++ [y]) = (anyBy lt x l || lt x y) := by simp [anyBy]
theorem partBy_in {x y : α} {l : List α} (h : anyBy lt x l = true) : zfa lt x (l ++ [y]) = zfa lt x l ++ [y] /\ anyBy lt x (l ++ [y]) = true := by
 have h2 : anyBy lt x (l ++ [y]) = true := by rw [anyBy_snoc, h]; rfl
 exact ⟨by simp only [zfa, h, h2, if_true]; exact insBy_snoc lt h, h2⟩
theorem partBy_new {x y : α} {l : List α} (h : anyBy lt x l = false) (hy : lt x y = true) : zfa lt x (l ++ [y]) = zfa lt x l ++ [x] ++ [y] /\ anyBy lt x (l ++ [y]) = true := by
 have h2 : anyBy lt x (l ++ [y]) = true := by rw [anyBy_snoc, h, hy]; rfl
 exact ⟨by simp only [zfa, h, h2, if_true, Bool.false_eq_true, if_false]; exact insBy_new lt h hy, h2⟩
theorem partBy_old {x y : α} {l : List α} (h : anyBy lt x l = false) (hy : lt x y = false) : zfa lt x (l ++ [y]) = zfa lt x l ++ [y] /\ anyBy lt x (l ++ [y]) = false := by
 have h2 : anyBy lt x (l ++ [y]) = false := by rw [anyBy_snoc, h, hy]; rfl
 exact ⟨by simp [zfa, h, h2], h2⟩
theorem partBy_len (x : α) (l : List α) : (zfa lt x l).length <= l.length + 1 := by
 unfold zfa
 split
 ·have : ∀ l : List α, (insBy lt x l).length = l.length + 1 := fun l => by
   induction l with
   | nil => rfl
   | cons y r ih => rw [insBy]; split <;> simp [ih]
  rw [this]; omega
 ·omega
end
def zdh (a b : Tk) : Bool := if a.kind ≠ b.kind then decide (a.kind < b.kind) else if a.s.t ≠ b.s.t then decide (a.s.t < b.s.t) else if a.s.ser ≠ b.s.ser then decide (a.s.ser < b.s.ser) else decide (a.s.win < b.s.win)
theorem less_1 {a b : Tk} (h : ¬ a.kind = b.kind) : zdh a b = decide (a.kind < b.kind) := by simp [zdh, h]
theorem less_2 {a b : Tk} (h : a.kind = b.kind) (h1 : ¬ a.s.t = b.s.t) : zdh a b = decide (a.s.t < b.s.t) := by simp [zdh, h, h1]
theorem less_3 {a b : Tk} (h : a.kind = b.kind) (h1 : a.s.t = b.s.t) (h2 : ¬ a.s.ser = b.s.ser) : zdh a b = decide (a.s.ser < b.s.ser) := by simp [zdh, h, h1, h2]
theorem less_4 {a b : Tk} (h : a.kind = b.kind) (h1 : a.s.t = b.s.t) (h2 : a.s.ser = b.s.ser) : zdh a b = decide (a.s.win < b.s.win) := by simp [zdh, h, h1, h2]
set_option maxHeartbeats 1000000 in
theorem less_any (a b : Tk) (w : World) :
  Calls Tryz.prog 224 #[.agg (tkV a).toArray, .agg (tkV b).toArray] w fun e w' => e = .returned (.bool (zdh a b)) /\ Below w.heap.size w w' := by
 have hbw : ∀ o1 o2, Below w.heap.size w ((w.alloc o1).alloc o2) := fun o1 o2 => ((Below.refl _ _).alloc (Nat.le_refl _) _).alloc (by simp) _
 have HBW := zab hbw
 clear hbw
 have HA : (tkV a).toArray = #[int i64 a.kind, int i64 a.s.t, int i64 a.s.ser, int i64 a.s.win, int i64 a.since, int i64 a.tries, int i64 a.rest, int i64 a.ep, int i64 a.num, int i64 a.slot, int i64 a.till] := rfl
 have HB : (tkV b).toArray = #[int i64 b.kind, int i64 b.s.t, int i64 b.s.ser, int i64 b.s.win, int i64 b.since, int i64 b.tries, int i64 b.rest, int i64 b.ep, int i64 b.num, int i64 b.slot, int i64 b.till] := rfl
 rw [HA, HB]
 clear HA HB
 by_cases e1 : a.kind = b.kind
 ·have b1 : (a.kind != b.kind) = false := by simp [e1]
  by_cases e2 : a.s.t = b.s.t
  ·have b2 : (a.s.t != b.s.t) = false := by simp [e2]
   by_cases e3 : a.s.ser = b.s.ser
   ·have b3 : (a.s.ser != b.s.ser) = false := by simp [e3]
    have HR := zab (less_4 e1 e2 e3)
    clear e1 e2 e3
    go_enter Tryz.func224, Tryz.ntmps224
    go_wp2_with fail
    go_ret
    exact ⟨zaq (ud HR).symm, ud HBW _ _⟩
   ·have b3 : (a.s.ser != b.s.ser) = true := by simp [e3]
    have HR := zab (less_3 e1 e2 e3)
    clear e1 e2 e3
    go_enter Tryz.func224, Tryz.ntmps224
    go_wp2_with fail
    go_ret
    exact ⟨zaq (ud HR).symm, ud HBW _ _⟩
  ·have b2 : (a.s.t != b.s.t) = true := by simp [e2]
   have HR := zab (less_2 e1 e2)
   clear e1 e2
   go_enter Tryz.func224, Tryz.ntmps224
   go_wp2_with fail
   go_ret
   exact ⟨zaq (ud HR).symm, ud HBW _ _⟩
 ·have b1 : (a.kind != b.kind) = true := by simp [e1]
  have HR := zab (less_1 e1)
  clear e1
  go_enter Tryz.func224, Tryz.ntmps224
  go_wp2_with fail
  go_ret
  exact ⟨zaq (ud HR).symm, ud HBW _ _⟩
theorem Tryz.infoTask : (Tryz.prog.info? 239).map (fun i => (i.zero, i.size, i.bytes)) = some (some (.agg #[int i64 0, int i64 0, int i64 0, int i64 0, int i64 0, int i64 0, int i64 0, int i64 0, int i64 0, int i64 0, int i64 0]), 11, 88) := by kernel_rfl
def tkObj (f : Tk) : Obj := .cells #[int i64 f.kind, int i64 f.s.t, int i64 f.s.ser, int i64 f.s.win, int i64 f.since, int i64 f.tries, int i64 f.rest, int i64 f.ep, int i64 f.num, int i64 f.slot, int i64 f.till] 239 (0, 0)
theorem push_tk {w : World} {ops : Array Oper} {rest : List Oper} {o : Oper} {a : Act} {Q : Exit -> Act -> World -> Prop} (hgd : o.guard = none) (s x : Operand)
  (ho : o.op = .call { callee := .builtin .append, args := #[s, x], argTypes := #[188, 188] }) (base : Nat) (v : Value) (l : List Tk) (f : Tk) (hs : a.eval s = v) (hown : w.ownsRow base 239 11 v l.length (l.flatMap tkV))
  (B1 : Nat) (hx : a.eval x = .slice (some ⟨B1, 0, none⟩) 1 1) (hB1 : w.heap[B1]? = some (tkObj f)) (hl : l.length <= 1099511627776) (hbase : base <= w.heap.size)
  (h : ∀ g cap w', w'.ownsRow base 239 11 (.slice (some ⟨g, 0, none⟩) (l.length + 1) cap) (l ++ [f]).length ((l ++ [f]).flatMap tkV) -> w'.ownsRow base 239 11 v l.length (l.flatMap tkV) -> w.grownBy w' v.ownBlock -> (v.ownBlock = some g \/ g = w.heap.size) -> g < w'.heap.size -> wpList Tryz.prog ops Q rest (a.put o.dst (.slice (some ⟨g, 0, none⟩) (l.length + 1) cap)) w') : wpList Tryz.prog ops Q (o :: rest) a w :=
 zbg hgd s x 188 ho base 239 _ 11 88 Tryz.underlying188 Tryz.infoTask rfl (by decide) v l.length (l.flatMap tkV) hs hown ⟨B1, 0, none⟩ 1 1 (tkV f) hx rfl
  (World.news_of_block (cs := (tkV f).toArray) hB1) (tkV_one f) (by decide) (by simp only [maxLen]; omega) (by omega) hbase
  fun g cap w' h1 h2 h3 h4 h5 => h g cap w' (flat_row h1) h2 h3 h4 h5
theorem tk_at {w : World} {B : Nat} {e : TypeId} {v : Value} {l : List Tk} (h : w.ownsRow B e 11 v l.length (l.flatMap tkV)) {i : Nat} {x : Tk} (hx : l[i]? = some x) :
  ∃ g cap, v = .slice (some ⟨g, 0, none⟩) l.length cap /\ B <= g /\ g < w.heap.size /\ w.cell? ⟨g, i * 11, none⟩ = some (int i64 x.kind) /\ w.cell? ⟨g, i * 11 + 1, none⟩ = some (int i64 x.s.t) /\ w.cell? ⟨g, i * 11 + 2, none⟩ = some (int i64 x.s.ser) /\ w.cell? ⟨g, i * 11 + 3, none⟩ = some (int i64 x.s.win) /\ w.cell? ⟨g, i * 11 + 4, none⟩ = some (int i64 x.since) /\ w.cell? ⟨g, i * 11 + 5, none⟩ = some (int i64 x.tries) /\ w.cell? ⟨g, i * 11 + 6, none⟩ = some (int i64 x.rest) /\ w.cell? ⟨g, i * 11 + 7, none⟩ = some (int i64 x.ep) /\ w.cell? ⟨g, i * 11 + 8, none⟩ = some (int i64 x.num) /\ w.cell? ⟨g, i * 11 + 9, none⟩ = some (int i64 x.slot) /\ w.cell? ⟨g, i * 11 + 10, none⟩ = some (int i64 x.till) := by
 have hil : i < l.length := (List.getElem?_eq_some_iff.1 hx).1
 obtain ⟨g, cap, hv, hb, hlt⟩ := h.form (by omega)
 rw [hv] at h
 have e : ∀ j, j < 11 -> w.cell? ⟨g, i * 11 + j, none⟩ = (tkV x)[j]? := fun j hj => by
  rw [h.cellAt _ (by omega)]; exact zek (f := tkV) tkV_len l i x j hx hj
 exact ⟨g, cap, hv, hb, hlt, e 0 (by omega), e 1 (by omega), e 2 (by omega), e 3 (by omega), e 4 (by omega), e 5 (by omega), e 6 (by omega), e 7 (by omega), e 8 (by omega), e 9 (by omega), e 10 (by omega)⟩
theorem owns_base {w : World} {b b' : Nat} {e : TypeId} {size : Nat} {v : Value} {n : Nat} {xs : List Value} (h : w.ownsRow b e size v n xs) (hb : b' <= b) : w.ownsRow b' e size v n xs := by
 refine ⟨h.1, ?_⟩
 rcases h.2 with h2 | ⟨g, cap, cur, rfl, hg, r⟩
 ·exact .inl h2
 ·exact .inr ⟨g, cap, cur, rfl, Nat.le_trans hb hg, r⟩
theorem tk_take {l : List Tk} {i : Nat} {x : Tk} (h : l[i]? = some x) : l.take (i + 1) = l.take i ++ [x] := by
 obtain ⟨hl, hx⟩ := List.getElem?_eq_some_iff.1 h
 rw [List.take_succ_eq_append_getElem hl, hx]
theorem obj_cells {w : World} {g : Nat} {f : Tk} (h : w.heap[g]? = some (tkObj f)) : w.cell? ⟨g, 0, none⟩ = some (int i64 f.kind) /\ w.cell? ⟨g, 1, none⟩ = some (int i64 f.s.t) /\ w.cell? ⟨g, 2, none⟩ = some (int i64 f.s.ser) /\ w.cell? ⟨g, 3, none⟩ = some (int i64 f.s.win) /\ w.cell? ⟨g, 4, none⟩ = some (int i64 f.since) /\ w.cell? ⟨g, 5, none⟩ = some (int i64 f.tries) /\ w.cell? ⟨g, 6, none⟩ = some (int i64 f.rest) /\ w.cell? ⟨g, 7, none⟩ = some (int i64 f.ep) /\ w.cell? ⟨g, 8, none⟩ = some (int i64 f.num) /\ w.cell? ⟨g, 9, none⟩ = some (int i64 f.slot) /\ w.cell? ⟨g, 10, none⟩ = some (int i64 f.till) := by
 refine ⟨?_, ?_, ?_, ?_, ?_, ?_, ?_, ?_, ?_, ?_, ?_⟩ <;> rw [zac h] <;> rfl
set_option maxHeartbeats 4000000 in
theorem with_any (B : Nat) (l : List Tk) (v : Value) (t : Tk) (w : World) (hl : l.length <= 1000000000000) (h : w.ownsRow B 239 11 v l.length (l.flatMap tkV)) :
  Calls Tryz.prog 222 #[v, .agg #[int i64 t.kind, int i64 t.s.t, int i64 t.s.ser, int i64 t.s.win, int i64 t.since, int i64 t.tries, int i64 t.rest, int i64 t.ep, int i64 t.num, int i64 t.slot, int i64 t.till]] w fun e w' => ∃ v', e = .returned v' /\ w'.ownsRow w.heap.size 239 11 v' (insBy zdh t l).length ((insBy zdh t l).flatMap tkV) /\ Below w.heap.size w w' := by
 obtain ⟨a0, cap0, hv⟩ := zah h
 subst hv
 have H := zab h
 have hb0 : w.heap.size < (w.alloc (tkObj t)).heap.size := by rw [zbd]; omega
 have hbw : Below w.heap.size w (w.alloc (tkObj t)) := (Below.refl _ _).alloc (Nat.le_refl _) _
 have hbox := zap w (tkObj t)
 have HBOX := zab hbox
 have HZ := zab (zbd w (tkObj t))
 clear h hbox
 go_enter Tryz.func222, Tryz.ntmps222
 go_wp2_with fail
 have hWW : (w.alloc (tkObj t)) = (w.alloc (.cells #[int i64 t.kind, int i64 t.s.t, int i64 t.s.ser, int i64 t.s.win, int i64 t.since, int i64 t.tries, int i64 t.rest, int i64 t.ep, int i64 t.num, int i64 t.slot, int i64 t.till] 239)) := rfl
 rw [<- hWW]
 clear hWW
 generalize (w.alloc (tkObj t)) = W at *
 go_loopw [5, 6, 7, 8] (fun z b y _ wr => ∃ (i : Nat), i <= l.length /\ y = int i64 i /\ b = .bool (anyBy zdh t (l.take i)) /\ wr.ownsRow (w.heap.size + 1) 239 11 z (zfa zdh t (l.take i)).length ((zfa zdh t (l.take i)).flatMap tkV) /\ Below (w.heap.size + 1) W wr) (fun _ _ y _ _ => l.length - (intOf y).toNat)
 case atStart => exact ⟨0, Nat.zero_le _, rfl, rfl, World.ownsRow_nil _ _ _ _, Below.refl _ _⟩
 case round =>
  obtain ⟨i, hi, rfl, rfl, hz, hb⟩ := hrel
  obtain ⟨az, cz, hzv⟩ := zah hz
  subst hzv
  have hbr : Below w.heap.size w wr := hbw.trans (hb.mono (by omega))
  have HB := zab hb
  have HBR := zab hbr
  have HZR := zab hz
  have hbx := (hb.block w.heap.size (by omega)).trans (ud HBOX)
  obtain ⟨t0, t1, t2, t3, t4, t5, t6, t7, t8, t9, t10⟩ := obj_cells hbx
  have HBX := zab hbx
  have hwz : w.heap.size < wr.heap.size := zaa hbx
  clear hbx hb hbr hz
  by_cases hil : i < l.length
  ·obtain ⟨x, hx⟩ := zch hil
   obtain ⟨g, cap', hvn, hgb, hgz, x0, x1, x2, x3, x4, x5, x6, x7, x8, x9, x10⟩ := tk_at (zcc (ud H) (ud HBR)) hx
   injection hvn with hvn1 hvn2 hvn3
   subst hvn1
   have hgw : g < w.heap.size := by
    obtain ⟨g', c', hv', _, hlt', _⟩ := tk_at (ud H) hx
    injection hv' with h1
    injection h1 with h1
    injection h1 with h1
    omega
   have htk := tk_take hx
   have hin : (i : Int) < l.length := by omega
   have hne : Nonempty (zaf wr.heap.size wr) := zaf.some _ _
   have hlc := fun (u : zaf wr.heap.size wr) b o h => u.cell b o h
   have hpl := partBy_len zdh t (l.take i)
   rw [List.length_take, Nat.min_eq_left hi] at hpl
   have HLE := zab (fun (u : zaf wr.heap.size wr) => less_any t x u.1)
   have HTK := zab htk
   clear hx hvn2 hvn3 htk
   go_wp2_with fail
   refine zad wr.heap.size (by kernel_rfl) (by kernel_rfl) ?_
   repeat (go_big_quiet_step (first | (go_at_call 224; exact Calls.later (Nat.le_refl _) (ud HLE _))))
   refine wpQuiet_nil ?_
   rintro ⟨w1, hb1⟩
   dsimp only
   clear hlc hne
   have hb1z := hb1.size
   have FV := zab (zcc (ud HZR) hb1)
   have FB := zab ((ud HB).trans (hb1.mono (by omega)))
   have z0 := (hb1.cell (p := ⟨g, i * 11, none⟩) hgz).trans x0
   have z1 := (hb1.cell (p := ⟨g, i * 11 + 1, none⟩) hgz).trans x1
   have z2 := (hb1.cell (p := ⟨g, i * 11 + 2, none⟩) hgz).trans x2
   have z3 := (hb1.cell (p := ⟨g, i * 11 + 3, none⟩) hgz).trans x3
   have z4 := (hb1.cell (p := ⟨g, i * 11 + 4, none⟩) hgz).trans x4
   have z5 := (hb1.cell (p := ⟨g, i * 11 + 5, none⟩) hgz).trans x5
   have z6 := (hb1.cell (p := ⟨g, i * 11 + 6, none⟩) hgz).trans x6
   have z7 := (hb1.cell (p := ⟨g, i * 11 + 7, none⟩) hgz).trans x7
   have z8 := (hb1.cell (p := ⟨g, i * 11 + 8, none⟩) hgz).trans x8
   have z9 := (hb1.cell (p := ⟨g, i * 11 + 9, none⟩) hgz).trans x9
   have z10 := (hb1.cell (p := ⟨g, i * 11 + 10, none⟩) hgz).trans x10
   have hg1 : g < w1.heap.size := by omega
   have hw1 : w.heap.size < w1.heap.size := by omega
   have hbx := (hb1.block _ hwz).trans (ud HBX)
   obtain ⟨u0, u1, u2, u3, u4, u5, u6, u7, u8, u9, u10⟩ := obj_cells hbx
   have HBX1 := zab hbx
   clear hbx x0 x1 x2 x3 x4 x5 x6 x7 x8 x9 x10 t0 t1 t2 t3 t4 t5 t6 t7 t8 t9 t10
   cases hany : anyBy zdh t (l.take i)
   ·cases hle : zdh t x
    ·have HP := zab (partBy_old zdh hany hle)
     clear hany hle u0 u1 u2 u3 u4 u5 u6 u7 u8 u9 u10
     generalize zfa zdh t (l.take i) = P at *
     go_wp2_with (first | (at_builtin; refine push_tk rfl _ _ rfl (w.heap.size + 1) _ P x rfl ((ud FV).alloc _) w1.heap.size rfl (zap _ (tkObj x)) ?hll ?hbb ?_; (case hll => omega); (case hbb => (rw [zbd]; omega)); intro g2 cap2 w3 hown hold hgrow hat hlt3) | fail)
     have hb3 : Below (w.heap.size + 1) W w3 := ((ud FB).alloc (by omega) _).grown hgrow (by rw [zbd]; omega) (fun k hk => ((ud FV).lt k hk).1)
     exact ⟨⟨i + 1, by omega, by go_num, by rw [ud HTK, (ud HP).2], by rw [ud HTK, (ud HP).1]; exact hown, hb3⟩, by simp [intOf]; omega⟩
    ·have HP := zab (partBy_new zdh hany hle)
     clear hany hle
     generalize zfa zdh t (l.take i) = P at *
     go_wp2_with (first
      | (at_builtin; refine push_tk rfl _ _ rfl (w.heap.size + 1) _ P t rfl ((ud FV).alloc _) w1.heap.size rfl (zap _ (tkObj t)) ?hll ?hbb ?_; (case hll => omega); (case hbb => (rw [zbd]; omega)); intro g1 cap1 w2 hown1 hold1 hgrow1 hat1 hlt1; have gb : ∀ k, k < w.heap.size + 1 -> w2.heap[k]? = w1.heap[k]? := (fun k hk => (hgrow1.block k (by rw [zbd]; omega) (fun e => by have := ((ud FV).lt k e.symm).1; omega)).trans (Below.heap_alloc _ _ _ (by omega))); have hb2 : Below (w.heap.size + 1) W w2 := (((ud FB).alloc (by omega) _).grown hgrow1 (by rw [zbd]; omega) (fun k hk => ((ud FV).lt k hk).1)); have hz2 : w1.heap.size < w2.heap.size := (by have := hgrow1.size; rw [zbd] at this; omega); have hg2 : g < w2.heap.size := (by omega); have y0 := (World.cell?_of_block (a := ⟨g, i * 11, none⟩) (gb g (by omega))).trans z0; have y1 := (World.cell?_of_block (a := ⟨g, i * 11 + 1, none⟩) (gb g (by omega))).trans z1; have y2 := (World.cell?_of_block (a := ⟨g, i * 11 + 2, none⟩) (gb g (by omega))).trans z2; have y3 := (World.cell?_of_block (a := ⟨g, i * 11 + 3, none⟩) (gb g (by omega))).trans z3; have y4 := (World.cell?_of_block (a := ⟨g, i * 11 + 4, none⟩) (gb g (by omega))).trans z4; have y5 := (World.cell?_of_block (a := ⟨g, i * 11 + 5, none⟩) (gb g (by omega))).trans z5; have y6 := (World.cell?_of_block (a := ⟨g, i * 11 + 6, none⟩) (gb g (by omega))).trans z6; have y7 := (World.cell?_of_block (a := ⟨g, i * 11 + 7, none⟩) (gb g (by omega))).trans z7; have y8 := (World.cell?_of_block (a := ⟨g, i * 11 + 8, none⟩) (gb g (by omega))).trans z8; have y9 := (World.cell?_of_block (a := ⟨g, i * 11 + 9, none⟩) (gb g (by omega))).trans z9; have y10 := (World.cell?_of_block (a := ⟨g, i * 11 + 10, none⟩) (gb g (by omega))).trans z10; have HB2 := zab hb2; have HOWN1 := zab hown1; clear gb hb2 hown1 hold1 hgrow1 hat1 z0 z1 z2 z3 z4 z5 z6 z7 z8 z9 z10 u0 u1 u2 u3 u4 u5 u6 u7 u8 u9 u10)
      | (at_builtin; refine push_tk rfl _ _ rfl (w.heap.size + 1) _ (P ++ [t]) x rfl ((ud HOWN1).alloc _) w2.heap.size rfl (zap _ (tkObj x)) ?hll ?hbb ?_; (case hll => (rw [List.length_append]; simp; omega)); (case hbb => (rw [zbd]; omega)); intro g2 cap2 w3 hown hold hgrow hat hlt3)
      | fail)
     have hlen : (P ++ [t]).length + 1 = P.length + 1 + 1 := by rw [List.length_append]; rfl
     rw [hlen] at hown
     have hb3 : Below (w.heap.size + 1) W w3 := ((ud HB2).alloc (by omega) _).grown hgrow (by rw [zbd]; omega) (fun k hk => ((ud HOWN1).lt k hk).1)
     exact ⟨⟨i + 1, by omega, by go_num, by rw [ud HTK, (ud HP).2], by rw [ud HTK, (ud HP).1]; exact hown, hb3⟩, by simp [intOf]; omega⟩
   ·have HP := zab (partBy_in zdh (y := x) hany)
    clear hany u0 u1 u2 u3 u4 u5 u6 u7 u8 u9 u10
    generalize zfa zdh t (l.take i) = P at *
    go_wp2_with (first | (at_builtin; refine push_tk rfl _ _ rfl (w.heap.size + 1) _ P x rfl ((ud FV).alloc _) w1.heap.size rfl (zap _ (tkObj x)) ?hll ?hbb ?_; (case hll => omega); (case hbb => (rw [zbd]; omega)); intro g2 cap2 w3 hown hold hgrow hat hlt3) | fail)
    have hb3 : Below (w.heap.size + 1) W w3 := ((ud FB).alloc (by omega) _).grown hgrow (by rw [zbd]; omega) (fun k hk => ((ud FV).lt k hk).1)
    exact ⟨⟨i + 1, by omega, by go_num, by rw [ud HTK, (ud HP).2], by rw [ud HTK, (ud HP).1]; exact hown, hb3⟩, by simp [intOf]; omega⟩
  ·have hii : i = l.length := by omega
   have hT : l.take i = l := by rw [hii, List.take_length]
   have hpl := partBy_len zdh t l
   rw [hT] at HZR
   rw [hT]
   cases hany : anyBy zdh t l
   ·have HP := zab (insBy_none zdh hany)
    have HP2 := zab (show zfa zdh t l = l by simp [zfa, hany])
    rw [ud HP2] at HZR
    clear hany
    rw [ud HP2]
    go_wp2_with (first | (at_builtin; refine push_tk rfl _ _ rfl (w.heap.size + 1) _ l t rfl ((ud HZR).alloc _) wr.heap.size rfl (zap _ (tkObj t)) ?hll ?hbb ?_; (case hll => omega); (case hbb => (rw [zbd]; omega)); intro g2 cap2 w3 hown hold hgrow hat hlt3) | fail)
    have hb3 : Below w.heap.size w w3 := ((ud HBR).alloc (by omega) _).grown hgrow (by rw [zbd]; omega) (fun k hk => by have := ((ud HZR).lt k hk).1; omega)
    go_ret
    exact ⟨_, rfl, by rw [ud HP]; exact owns_base hown (by omega), hb3⟩
   ·have HP := zab (show zfa zdh t l = insBy zdh t l by simp [zfa, hany])
    clear hany
    go_wp2_with fail
    go_ret
    exact ⟨_, rfl, by rw [<- ud HP]; exact owns_base (ud HZR) (by omega), ud HBR⟩
end Go.Proofs.YtpbimdkclnekeaaGreat
