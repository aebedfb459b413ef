import Derived.Test.YtpbimdkclnekeaaGreatKInv1
import Derived.Test.YtpbimdkclnekeaaGreatKZet7
import Derived.Test.YtpbimdkclnekeaaGreatKRef2
import Derived.Test.YtpbimdkclnekeaaGreatKStp3
import Derived.Deep.RegionHeld3

namespace Go.Proofs.YtpbimdkclnekeaaGreat
open Value (int)
open IntKind (i64)
open Go.RowKit Go.Maps Go.Shelf
set_option linter.unusedVariables false
theorem adw_first {A : Cl} {v : Int} (h : A.cnt = 0) : addW A v = ⟨A.cnt + 1, wrap64 (A.sum + v), v, v⟩ := by simp [addW, h]
theorem adw_ll {A : Cl} {v : Int} (h : ¬ A.cnt = 0) (h1 : v < A.mn) (h2 : A.mx < v) : addW A v = ⟨A.cnt + 1, wrap64 (A.sum + v), v, v⟩ := by simp [addW, h1, h2]
theorem adw_ln {A : Cl} {v : Int} (h : ¬ A.cnt = 0) (h1 : v < A.mn) (h2 : ¬ A.mx < v) : addW A v = ⟨A.cnt + 1, wrap64 (A.sum + v), v, A.mx⟩ := by simp [addW, h, h1, h2]
theorem adw_nl {A : Cl} {v : Int} (h : ¬ A.cnt = 0) (h1 : ¬ v < A.mn) (h2 : A.mx < v) : addW A v = ⟨A.cnt + 1, wrap64 (A.sum + v), A.mn, v⟩ := by simp [addW, h, h1, h2]
theorem adw_nn {A : Cl} {v : Int} (h : ¬ A.cnt = 0) (h1 : ¬ v < A.mn) (h2 : ¬ A.mx < v) : addW A v = ⟨A.cnt + 1, wrap64 (A.sum + v), A.mn, A.mx⟩ := by simp [addW, h, h1, h2]
set_option maxRecDepth 100000 in
set_option maxHeartbeats 4000000 in
theorem scell_any {w : World} {B : Nat} {s : Shp} {c : Cf} {ep : Int} {m : MS} {sn : Int} {ns : List Nm} {ks : List Tok} {us : List Int} (h : zbn w B s c ep m sn ns ks us) (hc : c.ok) (t : Int) (ht : -1 <= t /\ t < c.n) (ser win : Int) (hns : ∀ x ∈ ns, 0 <= x.tm /\ x.tm <= 100000 /\ -2147483648 <= x.val /\ x.val <= 2147483647) (hlen : ns.length < 4398046511104) :
  Calls Tryz.prog 68 #[.pointer (some ⟨s.p, 0, none⟩), int i64 t, int i64 ser, int i64 win] w fun e w' => ∃ d : Cl, IsC (fun x => x.ser = ser /\ x.tm / c.width t = win) ns d /\ e = .returned (.agg #[int i64 d.cnt, int i64 d.sum, .int .i32 d.mn, .int .i32 d.mx]) /\ Below w.heap.size w w' := by
 obtain ⟨b2, b3, hbw, bz⟩ := box2 w (.cells #[int i64 0, int i64 0, .int .i32 0, .int .i32 0] 114) (.cells #[int i64 0, int i64 0, .int .i32 0, .int .i32 0] 114)
 have B2 := zac b2
 have B3 := zac b3
 have BZ := zac bz
 have HBW0 := zac hbw
 have H0 := zac h
 have hwd := hc.width ht.1 ht.2
 obtain ⟨an, cn, hnv⟩ := zbt h.nrow
 have hlt0 := h.lt
 clear h b2 b3 bz hbw
 go_enter Tryz.func68, Tryz.ntmps68
 go_wp2_with fail
 generalize ((w.alloc (.cells #[int i64 0, int i64 0, .int .i32 0, .int .i32 0] 114)).alloc (.cells #[int i64 0, int i64 0, .int .i32 0, .int .i32 0] 114)) = W at *
 go_loopw [10, 11] (fun y _ wr => ∃ (k : Nat) (A : Cl), k <= ns.length /\ y = int i64 k /\ IsC (fun x => x.ser = ser /\ x.tm / c.width t = win) (ns.take k) A /\ wr.heap[w.heap.size + 1]? = some (clObj A) /\ Below (w.heap.size + 1) W wr) (fun y _ _ => ns.length - (intOf y).toNat)
 case atStart => exact ⟨0, zdn, Nat.zero_le _, rfl, IsC.zero (fun x hx => by simp at hx), ud B3, Below.refl _ _⟩
 case round =>
  obtain ⟨k, A, hk, rfl, hA, hcl, hb⟩ := hrel
  have hbw' : Below w.heap.size w wr := (ud HBW0).trans (hb.mono (by omega))
  have hS : zbn wr B s c ep m sn ns ks us := (ud H0).later hbw'
  obtain ⟨-, -, -, -, -, -, -, c10, -, -⟩ := hS.cells
  rw [hnv] at c10
  have hpl := hS.lt
  have hcz := zaa hcl
  have hrz : w.heap.size < wr.heap.size := by omega
  have hli : (ns.length : Int) < 4398046511104 := by omega
  have HS := zac hS
  have HB := zac hb
  have HBW := zac hbw'
  have HA := zac hA
  have HCL := zac hcl
  by_cases hlt : k < ns.length
  ·obtain ⟨x, hx⟩ := rget_of_lt hlt
   obtain ⟨x1, x2, x3, x4⟩ := hns x (List.mem_of_getElem? hx)
   have hnr := hS.nrow
   rw [hnv] at hnr
   obtain ⟨g, cap', hv, _, hgz, y0, y1, y2⟩ := nm_at hnr hx
   have hv' : an = some ⟨g, 0, none⟩ := by injection hv
   subst hv'
   have hkn : (k : Int) < ns.length := by omega
   have hcnt := hA.cnt
   have hcb := zeq (P := fun x : Nm => x.ser = ser /\ x.tm / c.width t = win) (ns.take k)
   rw [List.length_take, Nat.min_eq_left hk] at hcb
   have a1 : 0 <= A.cnt := by omega
   have a2 : A.cnt <= k := by omega
   have HX := zac hx
   have htk : ns.take (k + 1) = ns.take k ++ [x] := by
    obtain ⟨hl2, hx2⟩ := List.getElem?_eq_some_iff.1 hx
    rw [List.take_succ_eq_append_getElem hl2, hx2]
   have HTK := zac htk
   clear htk
   have hq3 := zag wr (.cells #[int i64 x.ser, int i64 x.tm, .int .i32 x.val] 78)
   have hSB : Below wr.heap.size wr (wr.alloc (.cells #[int i64 x.ser, int i64 x.tm, .int .i32 x.val] 78)) := (Below.refl _ _).alloc (Nat.le_refl _) _
   have q2 := (hSB.block (w.heap.size + 1) hcz).trans hcl
   have hS2 := hS.later hSB
   have HSB := zac hSB
   have HQ2 := zac q2
   have HWD := fun W (e : W = (wr.alloc (.cells #[int i64 x.ser, int i64 x.tm, .int .i32 x.val] 78)).drew) => zac (e ▸ swidth_any (hS2.later (Below.refl _ _).drew) hc t ht.1 ht.2)
   have n0 : (wr.alloc (.cells #[int i64 x.ser, int i64 x.tm, .int .i32 x.val] 78)).cell? ⟨wr.heap.size, 0, none⟩ = some (int i64 x.ser) := by rw [zab hq3]; rfl
   have n1 : (wr.alloc (.cells #[int i64 x.ser, int i64 x.tm, .int .i32 x.val] 78)).cell? ⟨wr.heap.size, 1, none⟩ = some (int i64 x.tm) := by rw [zab hq3]; rfl
   have n2 : (wr.alloc (.cells #[int i64 x.ser, int i64 x.tm, .int .i32 x.val] 78)).cell? ⟨wr.heap.size, 2, none⟩ = some (.int .i32 x.val) := by rw [zab hq3]; rfl
   have nz := zaa hq3
   have cz := zaa q2
   have d0 : (wr.alloc (.cells #[int i64 x.ser, int i64 x.tm, .int .i32 x.val] 78)).cell? ⟨w.heap.size + 1, 0, none⟩ = some (int i64 A.cnt) := by rw [zab q2]; rfl
   have d1 : (wr.alloc (.cells #[int i64 x.ser, int i64 x.tm, .int .i32 x.val] 78)).cell? ⟨w.heap.size + 1, 1, none⟩ = some (int i64 A.sum) := by rw [zab q2]; rfl
   have d2 : (wr.alloc (.cells #[int i64 x.ser, int i64 x.tm, .int .i32 x.val] 78)).cell? ⟨w.heap.size + 1, 2, none⟩ = some (.int .i32 A.mn) := by rw [zab q2]; rfl
   have d3 : (wr.alloc (.cells #[int i64 x.ser, int i64 x.tm, .int .i32 x.val] 78)).cell? ⟨w.heap.size + 1, 3, none⟩ = some (.int .i32 A.mx) := by rw [zab q2]; rfl
   have df : ∀ j, (wr.alloc (.cells #[int i64 x.ser, int i64 x.tm, .int .i32 x.val] 78)).frozen? ⟨w.heap.size + 1, j, none⟩ = false := fun j => zax q2 j
   have hquo : IntKind.i64.wrap (x.tm.tdiv (c.width t)) = x.tm / c.width t := by
    have h1 : x.tm / c.width t <= x.tm := Int.ediv_le_self _ x1
    have h2 : 0 <= x.tm / c.width t := Int.ediv_nonneg x1 (by omega)
    rw [Int.tdiv_eq_ediv_of_nonneg x1, IntKind.wrap_i64]; omega
   have hW0 : ¬ c.width t = 0 := by omega
   have hne : ¬ w.heap.size + 1 = wr.heap.size := by omega
   clear hS hb hbw' hA hcl hx hnr hv hq3 hSB q2 hS2 hcnt hcb hns
   by_cases hs : x.ser = ser
   ·subst hs
    have hsb : (x.ser != x.ser) = false := by simp
    by_cases hw : x.tm / c.width t = win
    ·subst hw
     have hwb : (x.tm / c.width t != x.tm / c.width t) = false := by simp
     by_cases hz : A.cnt = 0
     ·have hzb : (A.cnt == 0) = true := by simp [hz]
      have HAD := zac (adw_first (v := x.val) hz)
      clear hz
      go_wp2_with fail
      generalize (wr.alloc (.cells #[int i64 x.ser, int i64 x.tm, .int .i32 x.val] 78)) = Z at *
      refine rstill_d (by kernel_rfl) (by kernel_rfl) ?_
      iterate 9 ((with_reducible refine wpStill_step (fun K hK => ?_)); go_simp; (with_reducible refine hK _ ?_); clear hK K)
      still_call (ud (HWD _ rfl))
      iterate 4 ((with_reducible refine wpStill_step (fun K hK => ?_)); go_simp; (with_reducible refine hK _ ?_); clear hK K)
      refine wpStill_nil ?_
      clear HWD hquo n0 n1 hsb y0 y1 y2 c10 hW0 hnv hwd hgz
      go_wp2_with fail
      go_roundw
      case rel =>
       refine ⟨k + 1, addW A x.val, by omega, by go_num, ?_, ?_, ?_⟩
       ·rw [ud HTK]; exact (ud HA).add ⟨rfl, rfl⟩
       ·rw [ud HAD]; exact cl_23 (ud HQ2) _ _ _ _
       ·(try refine Below.drew ?_)
        repeat (refine below_set ?_ (Nat.le_refl _))
        first | exact ((ud HB).trans ((ud HSB).mono (by omega))).drew | exact (ud HB).trans ((ud HSB).mono (by omega))
      case measure => simp [intOf]; omega
     ·have hzb : (A.cnt == 0) = false := by simp [hz]
      by_cases h1 : x.val < A.mn
      ·by_cases h2 : A.mx < x.val
       ·have HAD := zac (adw_ll (v := x.val) hz h1 h2)
        clear hz
        go_wp2_with fail
        generalize (wr.alloc (.cells #[int i64 x.ser, int i64 x.tm, .int .i32 x.val] 78)) = Z at *
        refine rstill_d (by kernel_rfl) (by kernel_rfl) ?_
        iterate 9 ((with_reducible refine wpStill_step (fun K hK => ?_)); go_simp; (with_reducible refine hK _ ?_); clear hK K)
        still_call (ud (HWD _ rfl))
        iterate 4 ((with_reducible refine wpStill_step (fun K hK => ?_)); go_simp; (with_reducible refine hK _ ?_); clear hK K)
        refine wpStill_nil ?_
        clear HWD hquo n0 n1 hsb y0 y1 y2 c10 hW0 hnv hwd hgz
        go_wp2_with fail
        go_roundw
        case rel =>
         refine ⟨k + 1, addW A x.val, by omega, by go_num, ?_, ?_, ?_⟩
         ·rw [ud HTK]; exact (ud HA).add ⟨rfl, rfl⟩
         ·rw [ud HAD]; exact cl_23 (ud HQ2) _ _ _ _
         ·(try refine Below.drew ?_)
          repeat (refine below_set ?_ (Nat.le_refl _))
          first | exact ((ud HB).trans ((ud HSB).mono (by omega))).drew | exact (ud HB).trans ((ud HSB).mono (by omega))
        case measure => simp [intOf]; omega
       ·have HAD := zac (adw_ln (v := x.val) hz h1 h2)
        clear hz
        have hb2 : decide (A.mx < x.val) = false := by simpa using h2
        clear h2
        go_wp2_with fail
        generalize (wr.alloc (.cells #[int i64 x.ser, int i64 x.tm, .int .i32 x.val] 78)) = Z at *
        refine rstill_d (by kernel_rfl) (by kernel_rfl) ?_
        iterate 9 ((with_reducible refine wpStill_step (fun K hK => ?_)); go_simp; (with_reducible refine hK _ ?_); clear hK K)
        still_call (ud (HWD _ rfl))
        iterate 4 ((with_reducible refine wpStill_step (fun K hK => ?_)); go_simp; (with_reducible refine hK _ ?_); clear hK K)
        refine wpStill_nil ?_
        clear HWD hquo n0 n1 hsb y0 y1 y2 c10 hW0 hnv hwd hgz
        go_wp2_with fail
        go_roundw
        case rel =>
         refine ⟨k + 1, addW A x.val, by omega, by go_num, ?_, ?_, ?_⟩
         ·rw [ud HTK]; exact (ud HA).add ⟨rfl, rfl⟩
         ·rw [ud HAD]; exact cl_2 (ud HQ2) _ _ _
         ·(try refine Below.drew ?_)
          repeat (refine below_set ?_ (Nat.le_refl _))
          first | exact ((ud HB).trans ((ud HSB).mono (by omega))).drew | exact (ud HB).trans ((ud HSB).mono (by omega))
        case measure => simp [intOf]; omega
      ·by_cases h2 : A.mx < x.val
       ·have HAD := zac (adw_nl (v := x.val) hz h1 h2)
        clear hz
        have hb1 : decide (x.val < A.mn) = false := by simpa using h1
        clear h1
        go_wp2_with fail
        generalize (wr.alloc (.cells #[int i64 x.ser, int i64 x.tm, .int .i32 x.val] 78)) = Z at *
        refine rstill_d (by kernel_rfl) (by kernel_rfl) ?_
        iterate 9 ((with_reducible refine wpStill_step (fun K hK => ?_)); go_simp; (with_reducible refine hK _ ?_); clear hK K)
        still_call (ud (HWD _ rfl))
        iterate 4 ((with_reducible refine wpStill_step (fun K hK => ?_)); go_simp; (with_reducible refine hK _ ?_); clear hK K)
        refine wpStill_nil ?_
        clear HWD hquo n0 n1 hsb y0 y1 y2 c10 hW0 hnv hwd hgz
        go_wp2_with fail
        go_roundw
        case rel =>
         refine ⟨k + 1, addW A x.val, by omega, by go_num, ?_, ?_, ?_⟩
         ·rw [ud HTK]; exact (ud HA).add ⟨rfl, rfl⟩
         ·rw [ud HAD]; exact cl_3 (ud HQ2) _ _ _
         ·(try refine Below.drew ?_)
          repeat (refine below_set ?_ (Nat.le_refl _))
          first | exact ((ud HB).trans ((ud HSB).mono (by omega))).drew | exact (ud HB).trans ((ud HSB).mono (by omega))
        case measure => simp [intOf]; omega
       ·have HAD := zac (adw_nn (v := x.val) hz h1 h2)
        clear hz
        have hb1 : decide (x.val < A.mn) = false := by simpa using h1
        have hb2 : decide (A.mx < x.val) = false := by simpa using h2
        clear h1 h2
        go_wp2_with fail
        generalize (wr.alloc (.cells #[int i64 x.ser, int i64 x.tm, .int .i32 x.val] 78)) = Z at *
        refine rstill_d (by kernel_rfl) (by kernel_rfl) ?_
        iterate 9 ((with_reducible refine wpStill_step (fun K hK => ?_)); go_simp; (with_reducible refine hK _ ?_); clear hK K)
        still_call (ud (HWD _ rfl))
        iterate 4 ((with_reducible refine wpStill_step (fun K hK => ?_)); go_simp; (with_reducible refine hK _ ?_); clear hK K)
        refine wpStill_nil ?_
        clear HWD hquo n0 n1 hsb y0 y1 y2 c10 hW0 hnv hwd hgz
        go_wp2_with fail
        go_roundw
        case rel =>
         refine ⟨k + 1, addW A x.val, by omega, by go_num, ?_, ?_, ?_⟩
         ·rw [ud HTK]; exact (ud HA).add ⟨rfl, rfl⟩
         ·rw [ud HAD]; exact cl_0 (ud HQ2) _ _
         ·(try refine Below.drew ?_)
          repeat (refine below_set ?_ (Nat.le_refl _))
          first | exact ((ud HB).trans ((ud HSB).mono (by omega))).drew | exact (ud HB).trans ((ud HSB).mono (by omega))
        case measure => simp [intOf]; omega
    ·have hwb : (x.tm / c.width t != win) = true := by simpa using hw
     have HNW := zac hw
     clear hw
     go_wp2_with fail
     generalize (wr.alloc (.cells #[int i64 x.ser, int i64 x.tm, .int .i32 x.val] 78)) = Z at *
     refine rstill_d (by kernel_rfl) (by kernel_rfl) ?_
     iterate 9 ((with_reducible refine wpStill_step (fun K hK => ?_)); go_simp; (with_reducible refine hK _ ?_); clear hK K)
     still_call (ud (HWD _ rfl))
     iterate 4 ((with_reducible refine wpStill_step (fun K hK => ?_)); go_simp; (with_reducible refine hK _ ?_); clear hK K)
     refine wpStill_nil ?_
     clear HWD hquo n0 n1 hsb y0 y1 y2 c10 hW0 hnv hwd hgz
     go_wp2_with fail
     refine ⟨⟨k + 1, A, by omega, by go_num, ?_, ud HQ2, ((ud HB).trans ((ud HSB).mono (by omega))).drew⟩, by simp [intOf]; omega⟩
     rw [ud HTK]; exact (ud HA).skip (fun e => ud HNW e.2)
   ·have hsb : (x.ser != ser) = true := by simpa using hs
    have HNS := zac hs
    clear hs
    go_wp2_with fail
    generalize (wr.alloc (.cells #[int i64 x.ser, int i64 x.tm, .int .i32 x.val] 78)) = Z at *
    refine rstill_d (by kernel_rfl) (by kernel_rfl) ?_
    iterate 5 ((with_reducible refine wpStill_step (fun K hK => ?_)); go_simp; (with_reducible refine hK _ ?_); clear hK K)
    (try simp only [hsb])
    iterate 8 ((with_reducible refine rstill_skip (by kernel_rfl) ?_); (try simp only [Act.put, List.setIfInBounds_toArray, List.set_cons_zero, List.set_cons_succ]))
    iterate 1 ((with_reducible refine wpStill_step (fun K hK => ?_)); go_simp; (with_reducible refine hK _ ?_); clear hK K)
    refine wpStill_nil ?_
    go_wp2_with fail
    refine ⟨⟨k + 1, A, by omega, by go_num, ?_, ud HQ2, ((ud HB).trans ((ud HSB).mono (by omega))).drew⟩, by simp [intOf]; omega⟩
    rw [ud HTK]; exact (ud HA).skip (fun e => ud HNS e.1)
  ·have hkk : k = ns.length := by omega
   subst hkk
   have hnl : decide ((ns.length : Int) < ns.length) = false := by simp
   have hd := hcl
   have d0 : wr.cell? ⟨w.heap.size + 1, 0, none⟩ = some (int i64 A.cnt) := by rw [zab hd]; rfl
   have d1 : wr.cell? ⟨w.heap.size + 1, 1, none⟩ = some (int i64 A.sum) := by rw [zab hd]; rfl
   have d2 : wr.cell? ⟨w.heap.size + 1, 2, none⟩ = some (.int .i32 A.mn) := by rw [zab hd]; rfl
   have d3 : wr.cell? ⟨w.heap.size + 1, 3, none⟩ = some (.int .i32 A.mx) := by rw [zab hd]; rfl
   have q := (hb.block w.heap.size (by omega)).trans (ud B2)
   have d4 : wr.cell? ⟨w.heap.size, 0, none⟩ = some (int i64 0) := by rw [zab q]; rfl
   have d5 : wr.cell? ⟨w.heap.size, 1, none⟩ = some (int i64 0) := by rw [zab q]; rfl
   have d6 : wr.cell? ⟨w.heap.size, 2, none⟩ = some (.int .i32 0) := by rw [zab q]; rfl
   have d7 : wr.cell? ⟨w.heap.size, 3, none⟩ = some (.int .i32 0) := by rw [zab q]; rfl
   have df : ∀ j, wr.frozen? ⟨w.heap.size, j, none⟩ = false := fun j => zax q j
   have Q1 := zac q
   have hne : ¬ w.heap.size + 1 = w.heap.size := by omega
   clear q hd hcl hb hS hbw' hA hns
   go_wp2_with fail
   have hf := set4 (ud Q1) (int i64 A.cnt) (int i64 A.sum) (.int .i32 A.mn) (.int .i32 A.mx)
   have hA := ud HA
   rw [List.take_length] at hA
   refine bodyPost_ret (v := .agg #[int i64 A.cnt, int i64 A.sum, .int .i32 A.mn, .int .i32 A.mx]) (results_cell_row Tryz.results68 _ _ w.heap.size _ _ _ _ rfl hf Tryz.underlying114 rfl (by kernel_rfl)) rfl ⟨A, hA, rfl, ?_⟩
   refine (ud HBW).trans ?_
   repeat (refine below_set ?_ (Nat.le_refl _))
   exact Below.refl _ _
end Go.Proofs.YtpbimdkclnekeaaGreat
