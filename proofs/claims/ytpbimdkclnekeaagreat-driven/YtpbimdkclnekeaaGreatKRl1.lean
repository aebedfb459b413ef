import Derived.Test.YtpbimdkclnekeaaGreatKInv1
import Derived.Test.YtpbimdkclnekeaaGreatKInv2
import Derived.Test.YtpbimdkclnekeaaGreatKStp1
import Derived.Deep.RegionHeld3

namespace Go.Proofs.YtpbimdkclnekeaaGreat
open Value (int)
open IntKind (i64)
open Go.RowKit Go.Maps Go.Shelf
set_option linter.unusedVariables false
theorem set4_far {V : World} {g k j : Nat} {a b c d : Value} (h : ¬ k = g) : ((((V.setCell ⟨g, 0, none⟩ a).setCell ⟨g, 1, none⟩ b).setCell ⟨g, 2, none⟩ c).setCell ⟨g, 3, none⟩ d).cell? ⟨k, j, none⟩ = V.cell? ⟨k, j, none⟩ := (zan h).trans ((zan h).trans ((zan h).trans (zan h)))
theorem below4g {B : Nat} {w V : World} {g : Nat} (h : Below B w V) (hg : B <= g) (a b c d : Value) : Below B w ((((V.setCell ⟨g, 0, none⟩ a).setCell ⟨g, 1, none⟩ b).setCell ⟨g, 2, none⟩ c).setCell ⟨g, 3, none⟩ d) := (((h.setCell (p := ⟨g, 0, none⟩) hg a).setCell (p := ⟨g, 1, none⟩) hg b).setCell (p := ⟨g, 2, none⟩) hg c).setCell (p := ⟨g, 3, none⟩) hg d
def qcode (c : Cf) (m : MS) (x : Nm) (k : Nat) : Int := (zct c m.now m.Gl m.L k x.ser (x.tm / c.W k)).2
def wHit (c : Cf) (m : MS) (t : Int) (x : Nm) (k : Nat) : Prop := c.F k = t /\ qcode c m x k ≠ 0 /\ qcode c m x k ≠ 12
def waitsP (c : Cf) (m : MS) (t : Int) (x : Nm) : Prop := ∃ k, k < c.n /\ wHit c m t x k
set_option maxRecDepth 20000 in
set_option maxHeartbeats 4000000 in
theorem swaits_any {w : World} {B : Nat} {s : Shp} {c : Cf} {ep : Int} {m : MS} {sn : Int} {ns : List Nm} {ks : List Tok} {us : List Int} (h : zbn w B s c ep m sn ns ks us) (hc : c.ok) (hnow : 0 <= m.now /\ m.now <= 100000) (t : Int) (ht : -1 <= t /\ t < c.n) (x : Nm) (hx : 0 <= x.tm /\ x.tm <= 100000) (hser : 0 <= x.ser /\ x.ser < 4) :
  Calls Tryz.prog 69 #[.pointer (some ⟨s.p, 0, none⟩), int i64 t, .agg #[int i64 x.ser, int i64 x.tm, .int .i32 x.val]] w fun e w' => (∃ b : Bool, e = .returned (.bool b) /\ (b = true ↔ waitsP c m t x)) /\ Below w.heap.size w w' := by
 have hb0 : Below w.heap.size w (w.alloc (.cells #[int i64 x.ser, int i64 x.tm, .int .i32 x.val] 78)) := (Below.refl _ _).alloc (Nat.le_refl _) _
 have q0 := zag w (.cells #[int i64 x.ser, int i64 x.tm, .int .i32 x.val] 78)
 have H := zac (h.later hb0)
 have HB0 := zac hb0
 have Q0 := zac q0
 have hn4 := hc.n4
 have hqz := zaa q0
 obtain ⟨b, off, cap, hct, hbl, hcl⟩ := (h.later hb0).tiers hc
 clear h hb0 q0
 go_enter Tryz.func69, Tryz.ntmps69
 go_wp2_with fail
 generalize (w.alloc (.cells #[int i64 x.ser, int i64 x.tm, .int .i32 x.val] 78)) = X at *
 go_loopw [7, 8, 9] (fun y _ _ wr => ∃ k : Nat, k <= c.n /\ y = int i64 k /\ (∀ j, j < k -> ¬ wHit c m t x j) /\ Below X.heap.size X wr) (fun y _ _ _ => c.n - (intOf y).toNat)
 case atStart => exact ⟨0, Nat.zero_le _, rfl, fun j hj => absurd hj (Nat.not_lt_zero _), Below.refl _ _⟩
 case round =>
  obtain ⟨k, hk, rfl, hno, hb⟩ := hrel
  have hS := (ud H).later hb
  obtain ⟨c0, -, -, -, -, c8, -⟩ := hS.cells
  rw [hct] at c8
  have hl := hS.lt
  have hq0 := (hb.block _ hqz).trans (ud Q0)
  have n0 : wr.cell? ⟨w.heap.size, 0, none⟩ = some (int i64 x.ser) := by rw [zab hq0]; rfl
  have n1 : wr.cell? ⟨w.heap.size, 1, none⟩ = some (int i64 x.tm) := by rw [zab hq0]; rfl
  have hql := zaa hq0
  have hni : (c.n : Int) <= 4 := by omega
  have HS := zac hS
  have HB := zac hb
  have HNO := zac hno
  by_cases hlt : k < c.n
  ·have hlti : (k : Int) < c.n := by omega
   obtain ⟨g0', g1', -⟩ := hcl k hlt
   have g0 := (hb.cell (p := ⟨b, off + k * 3, none⟩) hbl).trans g0'
   have g1 := (hb.cell (p := ⟨b, off + k * 3 + 1, none⟩) hbl).trans g1'
   have hbr := Nat.lt_of_lt_of_le hbl hb.size
   have hWk := hc.W k hlt
   clear g0' g1' hS hb hq0 hno
   by_cases hFt : c.F k = t
   ·have hFb : (c.F k == t) = true := by simpa using hFt
    have HFT := zac hFt
    clear hFt
    go_wp2_with fail
    have hwn : 0 <= x.tm / c.W k /\ x.tm / c.W k <= 100000 := ⟨Int.ediv_nonneg hx.1 (by omega), by have := Int.ediv_le_self (c.W k) hx.1; omega⟩
    have hW0 : ¬ c.W k = 0 := by omega
    have hquo : IntKind.i64.wrap (x.tm.tdiv (c.W k)) = x.tm / c.W k := by rw [Int.tdiv_eq_ediv_of_nonneg hx.1, IntKind.wrap_i64]; omega
    have hb1 : Below wr.heap.size wr (wr.alloc (.cells #[int i64 0, int i64 0, .int .i32 0, .int .i32 0] 114)).drew := ((Below.refl _ _).alloc (Nat.le_refl _) _).drew
    have hz1 : wr.heap.size < (wr.alloc (.cells #[int i64 0, int i64 0, .int .i32 0, .int .i32 0] 114)).drew.heap.size := by show wr.heap.size < (wr.alloc (.cells #[int i64 0, int i64 0, .int .i32 0, .int .i32 0] 114)).heap.size; rw [zbm]; omega
    have hc1 : (wr.alloc (.cells #[int i64 0, int i64 0, .int .i32 0, .int .i32 0] 114)).drew.heap[wr.heap.size]? = some (.cells #[int i64 0, int i64 0, .int .i32 0, .int .i32 0] 114 (0, 0)) := zag wr _
    have HQ1 := zac (mquery_any ((ud HS).later hb1).mill hc hnow k x.ser (x.tm / c.W k) ⟨by omega, hlti⟩ hser hwn)
    have HQ0 := zac (mquery_any ((ud HS).later (Below.refl _ _).drew).mill hc hnow k x.ser (x.tm / c.W k) ⟨by omega, hlti⟩ hser hwn)
    have hqc : (zct c m.now m.Gl m.L k x.ser (x.tm / c.W k)).2 = qcode c m x k := rfl
    rw [hqc] at HQ1 HQ0
    have HQC := zac hqc
    clear hqc
    generalize (zct c m.now m.Gl m.L k x.ser (x.tm / c.W k)).1.cnt = Q1 at *
    generalize (zct c m.now m.Gl m.L k x.ser (x.tm / c.W k)).1.sum = Q2 at *
    generalize (zct c m.now m.Gl m.L k x.ser (x.tm / c.W k)).1.mn = Q3 at *
    generalize (zct c m.now m.Gl m.L k x.ser (x.tm / c.W k)).1.mx = Q4 at *
    have HB1 := zac hb1
    have HC1 := zac hc1
    have hpz : ¬ s.p = wr.heap.size := by omega
    have hqzz : ¬ w.heap.size = wr.heap.size := by omega
    have hbz : ¬ b = wr.heap.size := by omega
    obtain ⟨hx0, hx1⟩ := hx
    clear hb1 hc1 HQC
    rename_i K1 hK1
    refine (fun cont : ∀ (z : Nat) (Y : World), Below wr.heap.size wr Y -> K1 ((?aa : Nat -> Act) z) Y => ?main) ?hc
    case main =>
     have CONT := zac cont
     clear cont
     go_region_held3 (fun w' => w'.cell? ⟨s.p, 0, none⟩ = some (.pointer (some ⟨s.i.x, 0, none⟩)) /\ w'.cell? ⟨w.heap.size, 0, none⟩ = some (int i64 x.ser) /\ w'.cell? ⟨w.heap.size, 1, none⟩ = some (int i64 x.tm) /\ w'.cell? ⟨s.p, 8, none⟩ = some (.slice (some ⟨b, off, none⟩) c.n cap) /\ w'.cell? ⟨b, off + k * 3 + 1, none⟩ = some (int i64 (c.W k))) (first | go_keep | exact ⟨(set4_far (by assumption)).trans (by assumption), (set4_far (by assumption)).trans (by assumption), (set4_far (by assumption)).trans (by assumption), (set4_far (by assumption)).trans (by assumption), (set4_far (by assumption)).trans (by assumption)⟩) (first
      | (go_at_call 60; (with_reducible refine (ud HQ1).mono ?_); rintro e V ⟨rfl, hv1⟩; have hbv : Below wr.heap.size wr V := (ud HB1).trans (hv1.mono (ud HB1).size); have hzv := (hv1.block wr.heap.size hz1).trans (ud HC1); have z0 : V.cell? ⟨wr.heap.size, 0, none⟩ = some (int i64 0) := (by rw [zab hzv]; rfl); have z1 : V.cell? ⟨wr.heap.size, 1, none⟩ = some (int i64 0) := (by rw [zab hzv]; rfl); have z2 : V.cell? ⟨wr.heap.size, 2, none⟩ = some (.int .i32 0) := (by rw [zab hzv]; rfl); have z3 : V.cell? ⟨wr.heap.size, 3, none⟩ = some (.int .i32 0) := (by rw [zab hzv]; rfl); have zf := fun j => zax hzv j; have v0 := (hbv.cell (p := ⟨s.p, 0, none⟩) hl).trans c0; have v1 := (hbv.cell (p := ⟨w.heap.size, 0, none⟩) hql).trans n0; have v2 := (hbv.cell (p := ⟨w.heap.size, 1, none⟩) hql).trans n1; have v3 := (hbv.cell (p := ⟨s.p, 8, none⟩) hl).trans c8; have v4 := (hbv.cell (p := ⟨b, off + k * 3 + 1, none⟩) hbr).trans g1; have vl := Nat.lt_of_lt_of_le hl hbv.size; have vq := Nat.lt_of_lt_of_le hql hbv.size; have vb := Nat.lt_of_lt_of_le hbr hbv.size; have HBV := zac hbv; clear hbv hv1 hzv)
      | (go_at_call 60; (with_reducible refine (ud HQ0).mono ?_); rintro e V ⟨rfl, hv1⟩; have hbv : Below wr.heap.size wr V := bel_dd hv1; have v0 := (hbv.cell (p := ⟨s.p, 0, none⟩) hl).trans c0; have v1 := (hbv.cell (p := ⟨w.heap.size, 0, none⟩) hql).trans n0; have v2 := (hbv.cell (p := ⟨w.heap.size, 1, none⟩) hql).trans n1; have v3 := (hbv.cell (p := ⟨s.p, 8, none⟩) hl).trans c8; have v4 := (hbv.cell (p := ⟨b, off + k * 3 + 1, none⟩) hbr).trans g1; have vl := Nat.lt_of_lt_of_le hl hbv.size; have vq := Nat.lt_of_lt_of_le hql hbv.size; have vb := Nat.lt_of_lt_of_le hbr hbv.size; have hpv : ¬ s.p = V.heap.size := (by omega); have hqv : ¬ w.heap.size = V.heap.size := (by omega); have hbv2 : ¬ b = V.heap.size := (by omega); have HBV := zac hbv; clear hbv hv1))
     all_goals (first
      | (have hP := (ud HBV).alloc (ud HBV).size (.cells #[int i64 Q1, int i64 Q2, .int .i32 Q3, .int .i32 Q4] 114); generalize (V.alloc (.cells #[int i64 Q1, int i64 Q2, .int .i32 Q3, .int .i32 Q4] 114)) = Y at hP ⊢; generalize V.heap.size = z; exact ud CONT z Y hP)
      | (have hP := below4g (ud HBV) (Nat.le_refl wr.heap.size) (int i64 Q1) (int i64 Q2) (.int .i32 Q3) (.int .i32 Q4); generalize ((((V.setCell ⟨wr.heap.size, 0, none⟩ (int i64 Q1)).setCell ⟨wr.heap.size, 1, none⟩ (int i64 Q2)).setCell ⟨wr.heap.size, 2, none⟩ (.int .i32 Q3)).setCell ⟨wr.heap.size, 3, none⟩ (.int .i32 Q4)) = Y at hP ⊢; generalize wr.heap.size = z; exact ud CONT z Y hP))
    case hc =>
     intro z Y hbY
     have HBY := zac ((ud HB).trans (hbY.mono (ud HB).size))
     refine hK1 _ _ ?_
     clear hbY HQ0 HQ1 HB1 HC1 c0 c8 n0 n1 g0 g1
     by_cases e0 : qcode c m x k = 0
     ·have b0 : (qcode c m x k == 0) = true := by simpa using e0
      have HE := zac e0
      clear e0
      go_wp2_with fail
      refine ⟨⟨k + 1, by omega, by go_num, fun j hj hw => ?_, ud HBY⟩, by simp [intOf]; omega⟩
      by_cases e : j = k
      ·subst e; exact hw.2.1 (ud HE)
      ·exact ud HNO j (by omega) hw
     ·have b0 : (qcode c m x k == 0) = false := by simpa using e0
      have HE0 := zac e0
      have hn0 : ¬ qcode c m x k = 0 := e0
      clear e0
      by_cases e0 : qcode c m x k = 12
      ·have HE := zac e0
       go_wp2_with fail
       refine ⟨⟨k + 1, by omega, by go_num, fun j hj hw => ?_, ud HBY⟩, by simp [intOf]; omega⟩
       by_cases e : j = k
       ·subst e; exact hw.2.2 (ud HE)
       ·exact ud HNO j (by omega) hw
      ·have b1 : (qcode c m x k == 12) = false := by simpa using e0
       have HE := zac e0
       go_wp2_with fail
       ·go_ret
        exact ⟨⟨true, rfl, by simp only [true_iff]; exact ⟨k, hlt, ud HFT, ud HE0, ud HE⟩⟩, (ud HB0).trans ((ud HBY).mono (ud HB0).size)⟩
       all_goals
        rename_i hor
        simp [bne, b0, b1] at hor
   ·have hFb : (c.F k == t) = false := by simpa using hFt
    have HFT := zac hFt
    clear hFt
    go_wp2_with fail
    go_roundw
    case rel => exact ⟨k + 1, by omega, by go_num, fun j hj hw => by
     by_cases e : j = k
     ·subst e; exact ud HFT hw.1
     ·exact ud HNO j (by omega) hw, ud HB⟩
    case measure => simp [intOf]; omega
  ·have hkk : k = c.n := by omega
   have hnl : decide ((k : Int) < c.n) = false := by simp; omega
   clear hS hb hq0 hno
   go_wp2_with fail
   go_ret
   exact ⟨⟨false, rfl, by simp only [Bool.false_eq_true, false_iff]; rintro ⟨j, hj, hw⟩; exact ud HNO j (by omega) hw⟩, (ud HB0).trans ((ud HB).mono (ud HB0).size)⟩
end Go.Proofs.YtpbimdkclnekeaaGreat
