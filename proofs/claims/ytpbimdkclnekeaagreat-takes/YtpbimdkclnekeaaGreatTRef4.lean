import Derived.Test.YtpbimdkclnekeaaGreatTRef3

namespace Go.Proofs.YtpbimdkclnekeaaGreat
open Value (int)
open IntKind (i64)
open Go.RowKit
set_option linter.unusedVariables false
theorem box3 (w : World) (o1 o2 o3 : Obj) : (((w.alloc o1).alloc o2).alloc o3).heap[w.heap.size]? = some o1 /\ (((w.alloc o1).alloc o2).alloc o3).heap[w.heap.size + 1]? = some o2 /\ (((w.alloc o1).alloc o2).alloc o3).heap[w.heap.size + 2]? = some o3 /\ Below w.heap.size w (((w.alloc o1).alloc o2).alloc o3) /\ (((w.alloc o1).alloc o2).alloc o3).heap.size = w.heap.size + 3 := by
 obtain ⟨h1, h2, h3, h4⟩ := box2 w o1 o2
 refine ⟨(Below.heap_alloc _ _ _ (by rw [h4]; omega)).trans h1, (Below.heap_alloc _ _ _ (by rw [h4]; omega)).trans h2, by have := zap ((w.alloc o1).alloc o2) o3; rw [h4] at this; exact this, h3.alloc h3.size _, by rw [zbd, h4]⟩
theorem zcu {n : Nat} {a w : World} {g i : Nat} {v : Value} (h : Below n a w) (hg : n <= g) : Below n a (w.setCell ⟨g, i, none⟩ v) := h.setCell (p := ⟨g, i, none⟩) hg v
theorem step_same {c : Cf} {s : Sg} {A : Cl} {x : Nm} (h : zar c s.t x = s) : zdv c s A x = addCl A x.val := by simp [zdv, h]
theorem step_other {c : Cf} {s : Sg} {A : Cl} {x : Nm} (h : ¬ zar c s.t x = s) : zdv c s A x = A := by simp [zdv, h]
theorem add_first {A : Cl} {v : Int} (h : A.cnt = 0) : addCl A v = ⟨A.cnt + 1, A.sum + v, v, v⟩ := by simp [addCl, h]
theorem add_ll {A : Cl} {v : Int} (h : ¬ A.cnt = 0) (h1 : v < A.mn) (h2 : A.mx < v) : addCl A v = ⟨A.cnt + 1, A.sum + v, v, v⟩ := by simp [addCl, h1, h2]
theorem add_ln {A : Cl} {v : Int} (h : ¬ A.cnt = 0) (h1 : v < A.mn) (h2 : ¬ A.mx < v) : addCl A v = ⟨A.cnt + 1, A.sum + v, v, A.mx⟩ := by simp [addCl, h, h1, h2]
theorem add_nl {A : Cl} {v : Int} (h : ¬ A.cnt = 0) (h1 : ¬ v < A.mn) (h2 : A.mx < v) : addCl A v = ⟨A.cnt + 1, A.sum + v, A.mn, v⟩ := by simp [addCl, h, h1, h2]
theorem add_nn {A : Cl} {v : Int} (h : ¬ A.cnt = 0) (h1 : ¬ v < A.mn) (h2 : ¬ A.mx < v) : addCl A v = ⟨A.cnt + 1, A.sum + v, A.mn, A.mx⟩ := by simp [addCl, h, h1, h2]
theorem set4 {w : World} {g : Nat} {a b c d : Value} {t : TypeId} {fr : Nat × Nat} (h : w.heap[g]? = some (.cells #[a, b, c, d] t fr)) (x y z u : Value) : ((((w.setCell ⟨g, 0, none⟩ x).setCell ⟨g, 1, none⟩ y).setCell ⟨g, 2, none⟩ z).setCell ⟨g, 3, none⟩ u).heap[g]? = some (.cells #[x, y, z, u] t fr) :=
 zbz (i := 3) (zbz (i := 2) (zbz (i := 1) (zbz (i := 0) h x) y) z) u
def clObj (A : Cl) : Obj := .cells #[int i64 A.cnt, int i64 A.sum, .int .i32 A.mn, .int .i32 A.mx] 114 (0, 0)
theorem cl_23 {w : World} {g : Nat} {A : Cl} (h : w.heap[g]? = some (clObj A)) (c s a b : Int) : ((((w.setCell ⟨g, 2, none⟩ (.int .i32 a)).setCell ⟨g, 3, none⟩ (.int .i32 b)).setCell ⟨g, 0, none⟩ (int i64 c)).setCell ⟨g, 1, none⟩ (int i64 s)).heap[g]? = some (clObj ⟨c, s, a, b⟩) :=
 zbz (i := 1) (zbz (i := 0) (zbz (i := 3) (zbz (i := 2) h (.int .i32 a)) (.int .i32 b)) (int i64 c)) (int i64 s)
theorem cl_2 {w : World} {g : Nat} {A : Cl} (h : w.heap[g]? = some (clObj A)) (c s a : Int) : (((w.setCell ⟨g, 2, none⟩ (.int .i32 a)).setCell ⟨g, 0, none⟩ (int i64 c)).setCell ⟨g, 1, none⟩ (int i64 s)).heap[g]? = some (clObj ⟨c, s, a, A.mx⟩) :=
 zbz (i := 1) (zbz (i := 0) (zbz (i := 2) h (.int .i32 a)) (int i64 c)) (int i64 s)
theorem cl_3 {w : World} {g : Nat} {A : Cl} (h : w.heap[g]? = some (clObj A)) (c s b : Int) : (((w.setCell ⟨g, 3, none⟩ (.int .i32 b)).setCell ⟨g, 0, none⟩ (int i64 c)).setCell ⟨g, 1, none⟩ (int i64 s)).heap[g]? = some (clObj ⟨c, s, A.mn, b⟩) :=
 zbz (i := 1) (zbz (i := 0) (zbz (i := 3) h (.int .i32 b)) (int i64 c)) (int i64 s)
theorem cl_0 {w : World} {g : Nat} {A : Cl} (h : w.heap[g]? = some (clObj A)) (c s : Int) : ((w.setCell ⟨g, 0, none⟩ (int i64 c)).setCell ⟨g, 1, none⟩ (int i64 s)).heap[g]? = some (clObj ⟨c, s, A.mn, A.mx⟩) :=
 zbz (i := 1) (zbz (i := 0) h (int i64 c)) (int i64 s)
set_option maxHeartbeats 1000000 in
theorem cell_any {B : Nat} {w : World} {p : Nat} {m : RM} {tv nv pv gv kv : Value} (h : zbk B w p m tv nv pv gv kv) (hc : m.c.ok) (hnl : m.nums.length <= 1000000000) (hno : ∀ x ∈ m.nums, x.ok) (s : Sg) (ht1 : -1 <= s.t) (ht2 : s.t < m.c.n) :
  Calls Tryz.prog 158 #[.pointer (some ⟨p, 0, none⟩), .agg #[int i64 s.t, int i64 s.ser, int i64 s.win]] w fun e w' => e = .returned (.agg #[int i64 (zbs m.c s m.nums).cnt, int i64 (zbs m.c s m.nums).sum, .int .i32 (zbs m.c s m.nums).mn, .int .i32 (zbs m.c s m.nums).mx]) /\ Below w.heap.size w w' := by
 obtain ⟨b1, b2, b3, hbw, bz⟩ := box3 w (.cells #[int i64 s.t, int i64 s.ser, int i64 s.win] 232) (.cells #[int i64 0, int i64 0, .int .i32 0, .int .i32 0] 114) (.cells #[int i64 0, int i64 0, .int .i32 0, .int .i32 0] 114)
 have B1 := zab b1
 have B2 := zab b2
 have B3 := zab b3
 have BZ := zab bz
 have H := zab h
 obtain ⟨an, cn, hnv⟩ := zah h.nrow
 subst hnv
 clear h b1 b2 b3 bz
 go_enter Tryz.func158, Tryz.ntmps158
 go_wp2_with fail
 generalize hW : (((w.alloc (.cells #[int i64 s.t, int i64 s.ser, int i64 s.win] 232)).alloc (.cells #[int i64 0, int i64 0, .int .i32 0, .int .i32 0] 114)).alloc (.cells #[int i64 0, int i64 0, .int .i32 0, .int .i32 0] 114)) = W at *
 go_loopw [6, 7, 8] (fun y _ _ wr => ∃ (k : Nat), k <= m.nums.length /\ y = int i64 k /\ wr.heap[w.heap.size + 2]? = some (clObj (zbs m.c s (m.nums.take k))) /\ Below (w.heap.size + 2) W wr) (fun y _ _ _ => m.nums.length - (intOf y).toNat)
 case atStart => exact ⟨0, Nat.zero_le _, rfl, ud B3, Below.refl _ _⟩
 case round =>
  obtain ⟨k, hk, rfl, hA, hb⟩ := hrel
  have hbw' : Below w.heap.size w wr := hbw.trans (hb.mono (by omega))
  have hr := (ud H).later hbw'
  have hpr := hr.lt
  obtain ⟨r7, r8, r9, r10, r11, r12, r13⟩ := hr.rest
  have hsz : w.heap.size + 2 < wr.heap.size := by have := hb.size; rw [ud BZ] at this; omega
  have hz0 : w.heap.size < wr.heap.size := by omega
  have HRR := zab hr
  have HB := zab hb
  have HBW := zab hbw'
  have hpw := (ud H).lt
  clear hr hb hbw' r7 r9 r10 r11 r12 r13
  by_cases hlt : k < m.nums.length
  ·obtain ⟨x, hx⟩ := zch hlt
   have hxo := hno x (List.mem_of_getElem? hx)
   obtain ⟨g, cap', hv, _, hgz, x0, x1, x2⟩ := nm_at (ud HRR).nrow hx
   cases hv
   have hstep := cellOf_take m.c s m.nums k x hx
   have hAb := cellOf_bound (c := m.c) (s := s) (nums := m.nums.take k) (fun y hy => hno y (List.mem_of_mem_take hy))
   have hkn : (k : Int) < m.nums.length := by omega
   rw [List.length_take, Nat.min_eq_left hk] at hAb
   generalize zbs m.c s (m.nums.take k) = A at *
   obtain ⟨a1, a2, a3, a4⟩ := hAb
   have HX := zab hx
   have HSTEP := zab hstep
   have HAA := zab hA
   obtain ⟨o1, o2, o3, o4, o5, o6⟩ := hxo
   have hSB : Below wr.heap.size wr (wr.alloc (.cells #[int i64 x.ser, int i64 x.tm, .int .i32 x.val] 269)) := (Below.refl _ _).alloc (Nat.le_refl _) _
   have HSEG := zab (segment_any ((ud HRR).later hSB) hc s.t ht1 ht2 x ⟨o1, o2, o3, o4, o5, o6⟩)
   have s0 : wr.cell? ⟨w.heap.size, 0, none⟩ = some (int i64 s.t) := by rw [zac ((ud HB).block w.heap.size (by omega) |>.trans (ud B1))]; rfl
   clear hx hstep hA
   go_wp2_with fail
   refine (ud HSEG).mono ?_
   rintro e w1 ⟨rfl, hb1⟩
   have q := (ud HB).block w.heap.size (by omega) |>.trans (ud B1)
   have q1 := (hb1.block w.heap.size (by rw [zbd]; omega)).trans ((Below.heap_alloc _ _ _ (by omega)).trans q)
   have q2 := (hb1.block (w.heap.size + 2) (by rw [zbd]; omega)).trans ((Below.heap_alloc _ _ _ (by omega)).trans (ud HAA))
   have q3 := (hb1.block wr.heap.size (by rw [zbd]; omega)).trans (zap _ _)
   have hw1 : wr.heap.size < w1.heap.size := by have := hb1.size; rw [zbd] at this; omega
   have hw2 : w.heap.size < w1.heap.size := by omega
   have hw3 : w.heap.size + 1 + 1 < w1.heap.size := by omega
   have t0 : w1.cell? ⟨w.heap.size, 0, none⟩ = some (int i64 s.t) := by rw [zac q1]; rfl
   have t1 : w1.cell? ⟨w.heap.size, 1, none⟩ = some (int i64 s.ser) := by rw [zac q1]; rfl
   have t2 : w1.cell? ⟨w.heap.size, 2, none⟩ = some (int i64 s.win) := by rw [zac q1]; rfl
   have n2 : w1.cell? ⟨wr.heap.size, 2, none⟩ = some (.int .i32 x.val) := by rw [zac q3]; rfl
   have d0 : w1.cell? ⟨w.heap.size + 1 + 1, 0, none⟩ = some (int i64 A.cnt) := by rw [zac q2]; rfl
   have d1 : w1.cell? ⟨w.heap.size + 1 + 1, 1, none⟩ = some (int i64 A.sum) := by rw [zac q2]; rfl
   have d2 : w1.cell? ⟨w.heap.size + 1 + 1, 2, none⟩ = some (.int .i32 A.mn) := by rw [zac q2]; rfl
   have d3 : w1.cell? ⟨w.heap.size + 1 + 1, 3, none⟩ = some (.int .i32 A.mx) := by rw [zac q2]; rfl
   have df : ∀ j, w1.frozen? ⟨w.heap.size + 1 + 1, j, none⟩ = false := fun j => zaz q2 j
   have FIN := zab q2
   have FINB := zab (show Below (w.heap.size + 2) W w1 from (ud HB).trans ((hSB.mono (by omega)).trans (hb1.mono (by rw [zbd]; omega))))
   clear q q1 q2 q3 hb1 s0 x0 x1 x2 hSB r8 hgz
   by_cases hsame : zar m.c s.t x = s
   ·have HS := zab (step_same (A := A) hsame)
    have hh := hsame
    clear HSEG
    rw [hsame]
    clear hsame hh
    by_cases hz : A.cnt = 0
    ·have HAD := zab (add_first (v := x.val) hz)
     have hzb : (A.cnt == 0) = true := by simp [hz]
     clear hz
     go_wp2_with fail
     go_roundw
     case rel =>
      refine ⟨k + 1, by omega, by go_num, ?_, ?_⟩
      ·rw [ud HSTEP, ud HS, ud HAD]
       exact (Below.heap_alloc _ _ _ (by simp [World.setCell]; omega)).trans (cl_23 (ud FIN) _ _ _ _)
      ·refine Below.alloc ?_ (by simp [World.setCell]; omega) _
       repeat (refine zcu ?_ (show w.heap.size + 2 <= w.heap.size + 1 + 1 by omega))
       exact ud FINB
     case measure => simp [intOf]; omega
    ·have hzb : (A.cnt == 0) = false := by simp [hz]
     by_cases h1 : x.val < A.mn
     ·by_cases h2 : A.mx < x.val
      ·have HAD := zab (add_ll (v := x.val) hz h1 h2)
       clear hz
       go_wp2_with fail
       go_roundw
       case rel =>
        refine ⟨k + 1, by omega, by go_num, ?_, ?_⟩
        ·rw [ud HSTEP, ud HS, ud HAD]
         exact (Below.heap_alloc _ _ _ (by simp [World.setCell]; omega)).trans (cl_23 (ud FIN) _ _ _ _)
        ·refine Below.alloc ?_ (by simp [World.setCell]; omega) _
         repeat (refine zcu ?_ (show w.heap.size + 2 <= w.heap.size + 1 + 1 by omega))
         exact ud FINB
       case measure => simp [intOf]; omega
      ·have HAD := zab (add_ln (v := x.val) hz h1 h2)
       clear hz
       go_wp2_with fail
       go_roundw
       case rel =>
        refine ⟨k + 1, by omega, by go_num, ?_, ?_⟩
        ·rw [ud HSTEP, ud HS, ud HAD]
         exact (Below.heap_alloc _ _ _ (by simp [World.setCell]; omega)).trans (cl_2 (ud FIN) _ _ _)
        ·refine Below.alloc ?_ (by simp [World.setCell]; omega) _
         repeat (refine zcu ?_ (show w.heap.size + 2 <= w.heap.size + 1 + 1 by omega))
         exact ud FINB
       case measure => simp [intOf]; omega
     ·by_cases h2 : A.mx < x.val
      ·have HAD := zab (add_nl (v := x.val) hz h1 h2)
       clear hz
       go_wp2_with fail
       go_roundw
       case rel =>
        refine ⟨k + 1, by omega, by go_num, ?_, ?_⟩
        ·rw [ud HSTEP, ud HS, ud HAD]
         exact (Below.heap_alloc _ _ _ (by simp [World.setCell]; omega)).trans (cl_3 (ud FIN) _ _ _)
        ·refine Below.alloc ?_ (by simp [World.setCell]; omega) _
         repeat (refine zcu ?_ (show w.heap.size + 2 <= w.heap.size + 1 + 1 by omega))
         exact ud FINB
       case measure => simp [intOf]; omega
      ·have HAD := zab (add_nn (v := x.val) hz h1 h2)
       clear hz
       go_wp2_with fail
       go_roundw
       case rel =>
        refine ⟨k + 1, by omega, by go_num, ?_, ?_⟩
        ·rw [ud HSTEP, ud HS, ud HAD]
         exact (Below.heap_alloc _ _ _ (by simp [World.setCell]; omega)).trans (cl_0 (ud FIN) _ _)
        ·refine Below.alloc ?_ (by simp [World.setCell]; omega) _
         repeat (refine zcu ?_ (show w.heap.size + 2 <= w.heap.size + 1 + 1 by omega))
         exact ud FINB
       case measure => simp [intOf]; omega
   ·have HS := zab (step_other (A := A) hsame)
    have hd := sg_ne hsame
    clear hsame
    rcases hd with hd | ⟨hd0, hd⟩ | ⟨hd0, hd1, hd⟩
    all_goals
     go_wp2_with fail
     go_roundw
     case rel => exact ⟨k + 1, by omega, by go_num, by rw [ud HSTEP, ud HS]; exact (Below.heap_alloc _ _ _ (by omega)).trans (ud FIN), (ud FINB).alloc (by omega) _⟩
     case measure => simp [intOf]; omega
  ·have hkk : k = m.nums.length := by omega
   rw [hkk, List.take_length] at hA
   have d0 : wr.cell? ⟨w.heap.size + 1 + 1, 0, none⟩ = some (int i64 (zbs m.c s m.nums).cnt) := by rw [zac hA]; rfl
   have d1 : wr.cell? ⟨w.heap.size + 1 + 1, 1, none⟩ = some (int i64 (zbs m.c s m.nums).sum) := by rw [zac hA]; rfl
   have d2 : wr.cell? ⟨w.heap.size + 1 + 1, 2, none⟩ = some (.int .i32 (zbs m.c s m.nums).mn) := by rw [zac hA]; rfl
   have d3 : wr.cell? ⟨w.heap.size + 1 + 1, 3, none⟩ = some (.int .i32 (zbs m.c s m.nums).mx) := by rw [zac hA]; rfl
   have q := (ud HB).block (w.heap.size + 1) (by omega) |>.trans (ud B2)
   have d4 : wr.cell? ⟨w.heap.size + 1, 0, none⟩ = some (int i64 0) := by rw [zac q]; rfl
   have d5 : wr.cell? ⟨w.heap.size + 1, 1, none⟩ = some (int i64 0) := by rw [zac q]; rfl
   have d6 : wr.cell? ⟨w.heap.size + 1, 2, none⟩ = some (.int .i32 0) := by rw [zac q]; rfl
   have d7 : wr.cell? ⟨w.heap.size + 1, 3, none⟩ = some (.int .i32 0) := by rw [zac q]; rfl
   have df : ∀ j, wr.frozen? ⟨w.heap.size + 1, j, none⟩ = false := fun j => zaz q j
   have Q1 := zab q
   clear q hA
   go_wp2_with fail
   have hf := set4 (ud Q1) (int i64 (zbs m.c s m.nums).cnt) (int i64 (zbs m.c s m.nums).sum) (.int .i32 (zbs m.c s m.nums).mn) (.int .i32 (zbs m.c s m.nums).mx)
   refine bodyPost_ret (v := .agg #[int i64 (zbs m.c s m.nums).cnt, int i64 (zbs m.c s m.nums).sum, .int .i32 (zbs m.c s m.nums).mn, .int .i32 (zbs m.c s m.nums).mx]) (results_cell_row Tryz.results158 _ _ (w.heap.size + 1) _ _ _ _ rfl hf Tryz.underlying114 rfl (by kernel_rfl)) rfl ⟨rfl, ?_⟩
   refine (ud HBW).trans ?_
   repeat (refine zcu ?_ (show w.heap.size <= w.heap.size + 1 by omega))
   exact Below.refl _ _
end Go.Proofs.YtpbimdkclnekeaaGreat
