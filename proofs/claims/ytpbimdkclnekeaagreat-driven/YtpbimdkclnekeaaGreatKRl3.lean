import Derived.Test.YtpbimdkclnekeaaGreatKRl1
import Derived.Test.YtpbimdkclnekeaaGreatKRl2
import Derived.Test.YtpbimdkclnekeaaGreatKInv2
import Derived.Test.YtpbimdkclnekeaaGreatKPck2

namespace Go.Proofs.YtpbimdkclnekeaaGreat
open Value (int)
open IntKind (i64)
open Go.RowKit Go.Maps Go.Shelf
set_option linter.unusedVariables false
theorem end_bound {tm wd : Int} (h0 : 0 <= tm) (h1 : tm <= 100000) (hw : 1 <= wd /\ wd <= 1000) : 0 <= tm / wd /\ tm / wd <= 100000 /\ 0 <= (tm / wd + 1) * wd /\ (tm / wd + 1) * wd <= 101000 := by
 have a := Int.ediv_nonneg h0 (show 0 <= wd by omega)
 have b : tm / wd <= tm := Int.ediv_le_self _ h0
 have c := Int.ediv_mul_le tm (show wd ≠ 0 by omega)
 have d : (tm / wd + 1) * wd = tm / wd * wd + wd := by rw [Int.add_mul, Int.one_mul]
 have e := Int.mul_nonneg a (show 0 <= wd by omega)
 omega
set_option maxRecDepth 20000 in
set_option maxHeartbeats 8000000 in
theorem stold_any {w : World} {B : Nat} {s : Shp} {c : Cf} {ep : Int} {m : MS} {ns : List Nm} {ks : List Tok} {us : List Int} (h : zbn w B s c ep m m.now ns ks us) (hc : c.ok) (hf : c.fits) (hm : MOk c ep m) (hi : RInv c m ns) (hlen : ns.length < 4398046511104) (x : Nm) (hx : x ∈ ns) (t : Int) (ht : -1 <= t /\ t < c.n) (all : Bool)
  (hall : all = true -> (zct c m.now m.Gl m.L t x.ser (x.tm / c.width t)).2 ≠ 11 /\ ((zct c m.now m.Gl m.L t x.ser (x.tm / c.width t)).2 = 0 -> (x.tm / c.width t + 1) * c.width t + c.keep t <= m.now -> waitsP c m t x)) :
  Calls Tryz.prog 32 #[.pointer (some ⟨s.p, 0, none⟩), int i64 t, .agg #[int i64 x.ser, int i64 x.tm, .int .i32 x.val], .bool all] w fun e w' => e = .returned (.bool true) /\ Below w.heap.size w w' := by
 obtain ⟨x1, x2, x3, x4, x5, x6⟩ := hi.tm x hx
 have hnow := hm.now
 have hwd := hc.width ht.1 ht.2
 obtain ⟨w1, w2, w3, w4⟩ := end_bound (tm := x.tm) (wd := c.width t) x1 (by omega) hwd
 have hT := hi.told hc hf hm hx ht.1 ht.2
 have hns : ∀ y ∈ ns, 0 <= y.tm /\ y.tm <= 100000 /\ -2147483648 <= y.val /\ y.val <= 2147483647 := fun y hy => by have := hi.tm y hy; omega
 have hb0 : Below w.heap.size w (w.alloc (.cells #[int i64 x.ser, int i64 x.tm, .int .i32 x.val] 78)) := (Below.refl _ _).alloc (Nat.le_refl _) _
 have q0 := zag w (.cells #[int i64 x.ser, int i64 x.tm, .int .i32 x.val] 78)
 have hS := h.later hb0
 have HS := zac hS
 have HB0 := zac hb0
 have Q0 := zac q0
 have hqz := zaa q0
 have n0 : (w.alloc (.cells #[int i64 x.ser, int i64 x.tm, .int .i32 x.val] 78)).cell? ⟨w.heap.size, 0, none⟩ = some (int i64 x.ser) := by rw [zab q0]; rfl
 have n1 : (w.alloc (.cells #[int i64 x.ser, int i64 x.tm, .int .i32 x.val] 78)).cell? ⟨w.heap.size, 1, none⟩ = some (int i64 x.tm) := by rw [zab q0]; rfl
 have HWD := fun W (e : Below (w.alloc (.cells #[int i64 x.ser, int i64 x.tm, .int .i32 x.val] 78)).heap.size (w.alloc (.cells #[int i64 x.ser, int i64 x.tm, .int .i32 x.val] 78)) W) => zac (swidth_any (hS.later e) hc t ht.1 ht.2)
 have hquo : IntKind.i64.wrap (x.tm.tdiv (c.width t)) = x.tm / c.width t := by rw [Int.tdiv_eq_ediv_of_nonneg x1, IntKind.wrap_i64]; omega
 have hW0 : ¬ c.width t = 0 := by omega
 have HT := zac hT
 have HALL := zac hall
 have HNS := zac hns
 have HI := zac hi
 clear h hT hall hns hb0 q0 hS hi hm hf
 go_enter Tryz.func32, Tryz.ntmps32
 go_wp2_with fail
 generalize (w.alloc (.cells #[int i64 x.ser, int i64 x.tm, .int .i32 x.val] 78)) = X at *
 refine rstill_d (by kernel_rfl) (by kernel_rfl) ?_
 iterate 4 ((with_reducible refine wpStill_step (fun K hK => ?_)); go_simp; (with_reducible refine hK _ ?_); clear hK K)
 still_call (ud (HWD _ (Below.refl _ _).drew))
 iterate 2 ((with_reducible refine wpStill_step (fun K hK => ?_)); go_simp; (with_reducible refine hK _ ?_); clear hK K)
 refine wpStill_nil ?_
 generalize hwn : x.tm / c.width t = wn at *
 have HWN := zac hwn
 clear hwn hquo
 obtain ⟨en, hen⟩ : ∃ en, (wn + 1) * c.width t = en := ⟨_, rfl⟩
 rw [hen] at w3 w4 HALL
 have hmul : wrap64 ((wn + 1) * c.width t) = en := by rw [hen]; unfold wrap64; omega
 have HEN := zac hen
 have HMUL := zac hmul
 clear hen hmul
 have hSX := ud HS
 obtain ⟨c0', -, -, c4', -, -, c9', -, -, -⟩ := hSX.cells
 have hpl := hSX.lt
 go_wp2_with fail
 refine (ud (HWD _ (Below.refl _ _).drew)).mono ?_
 rintro e V0 ⟨rfl, rfl⟩
 generalize hQe : zct c m.now m.Gl m.L t x.ser wn = Q at *
 have HSD := zac (hSX.later (Below.refl _ _).drew)
 have HUX : Hid (Below X.heap.size X X.drew) := (Below.refl _ _).drew
 have HQL := zac hqz
 have hzd : X.drew.heap.size = X.heap.size := rfl
 clear hSX hwd hzd
 have c0 : X.drew.cell? ⟨s.p, 0, none⟩ = some (.pointer (some ⟨s.i.x, 0, none⟩)) := c0'
 have c4 : X.drew.cell? ⟨s.p, 4, none⟩ = some (int i64 c.la) := c4'
 have c9 : X.drew.cell? ⟨s.p, 9, none⟩ = some (int i64 m.now) := c9'
 have n0' : X.drew.cell? ⟨w.heap.size, 0, none⟩ = some (int i64 x.ser) := n0
 have hpl' : s.p < X.drew.heap.size := hpl
 have hqz' : w.heap.size < X.drew.heap.size := hqz
 have HBX : Hid (Below w.heap.size w X.drew) := (ud HB0).drew
 clear c0' c4' c9' n0 n1 hpl hqz HS HWD
 generalize X.drew = U at *
 go_wp2_with fail
 have hmul := ud HMUL
 simp only [hmul]
 clear hmul HMUL
 have hb1 : Below U.heap.size U (U.alloc (.cells #[int i64 0, int i64 0, .int .i32 0, .int .i32 0] 114)).drew := ((Below.refl _ _).alloc (Nat.le_refl _) _).drew
 have hz1 : U.heap.size < (U.alloc (.cells #[int i64 0, int i64 0, .int .i32 0, .int .i32 0] 114)).drew.heap.size := by show U.heap.size < (U.alloc (.cells #[int i64 0, int i64 0, .int .i32 0, .int .i32 0] 114)).heap.size; rw [zbm]; omega
 have hc1 : (U.alloc (.cells #[int i64 0, int i64 0, .int .i32 0, .int .i32 0] 114)).drew.heap[U.heap.size]? = some (.cells #[int i64 0, int i64 0, .int .i32 0, .int .i32 0] 114 (0, 0)) := zag U _
 have HQ1 := zac (mquery_any ((ud HSD).later hb1).mill hc hnow t x.ser wn ht ⟨x3, x4⟩ ⟨w1, w2⟩)
 have HQ0 := zac (mquery_any ((ud HSD).later (Below.refl _ _).drew).mill hc hnow t x.ser wn ht ⟨x3, x4⟩ ⟨w1, w2⟩)
 rw [hQe] at HQ1 HQ0
 have HQE := zac hQe
 have HB1 := zac hb1
 have HC1 := zac hc1
 have hpz : ¬ s.p = U.heap.size := by omega
 have hqzz : ¬ w.heap.size = U.heap.size := by omega
 clear hb1 hc1 hQe
 obtain ⟨⟨Q1, Q2, Q3, Q4⟩, QE⟩ := Q
 dsimp only at HQ1 HQ0 HALL
 rename_i K1 hK1
 refine (fun cont : ∀ (z : Nat) (Y : World), U.heap.size <= z -> Y.heap[z]? = some (clObj ⟨Q1, Q2, Q3, Q4⟩) -> Below U.heap.size U Y -> K1 ((?aa : Nat -> Act) z) Y => ?main) ?hc
 case main =>
  have CONT := zac cont
  clear cont
  go_region_held3 (fun w' => w'.cell? ⟨s.p, 0, none⟩ = some (.pointer (some ⟨s.i.x, 0, none⟩)) /\ w'.cell? ⟨w.heap.size, 0, none⟩ = some (int i64 x.ser)) (first | go_keep | exact ⟨(set4_far (by assumption)).trans (by assumption), (set4_far (by assumption)).trans (by assumption)⟩) (first
   | (go_at_call 60; (with_reducible refine (ud HQ1).mono ?_); rintro e V ⟨rfl, hv1⟩; have hbv : Below U.heap.size U V := (ud HB1).trans (hv1.mono (ud HB1).size); have hzv := (hv1.block U.heap.size hz1).trans (ud HC1); have z0 : V.cell? ⟨U.heap.size, 0, none⟩ = some (int i64 0) := (by rw [zab hzv]; rfl); have z1 : V.cell? ⟨U.heap.size, 1, none⟩ = some (int i64 0) := (by rw [zab hzv]; rfl); have z2 : V.cell? ⟨U.heap.size, 2, none⟩ = some (.int .i32 0) := (by rw [zab hzv]; rfl); have z3 : V.cell? ⟨U.heap.size, 3, none⟩ = some (.int .i32 0) := (by rw [zab hzv]; rfl); have zf := fun j => zax hzv j; have v0 := (hbv.cell (p := ⟨s.p, 0, none⟩) hpl').trans c0; have v1 := (hbv.cell (p := ⟨w.heap.size, 0, none⟩) hqz').trans n0'; have vl := Nat.lt_of_lt_of_le hpl' hbv.size; have vq := Nat.lt_of_lt_of_le hqz' hbv.size; have HBV := zac hbv; have HZV := zac hzv; clear hbv hv1 hzv)
   | (go_at_call 60; (with_reducible refine (ud HQ0).mono ?_); rintro e V ⟨rfl, hv1⟩; have hbv : Below U.heap.size U V := bel_dd hv1; have v0 := (hbv.cell (p := ⟨s.p, 0, none⟩) hpl').trans c0; have v1 := (hbv.cell (p := ⟨w.heap.size, 0, none⟩) hqz').trans n0'; have vl := Nat.lt_of_lt_of_le hpl' hbv.size; have vq := Nat.lt_of_lt_of_le hqz' hbv.size; have hpv : ¬ s.p = V.heap.size := (by omega); have hqv : ¬ w.heap.size = V.heap.size := (by omega); have HBV := zac hbv; clear hbv hv1))
  all_goals (first
   | (have hP := (ud HBV).alloc (ud HBV).size (.cells #[int i64 Q1, int i64 Q2, .int .i32 Q3, .int .i32 Q4] 114); have hR := zag V (.cells #[int i64 Q1, int i64 Q2, .int .i32 Q3, .int .i32 Q4] 114); have hL := (ud HBV).size; generalize (V.alloc (.cells #[int i64 Q1, int i64 Q2, .int .i32 Q3, .int .i32 Q4] 114)) = Y at hP hR ⊢; generalize V.heap.size = z at hR hL ⊢; exact ud CONT z Y hL hR hP)
   | (have hP := below4g (ud HBV) (Nat.le_refl U.heap.size) (int i64 Q1) (int i64 Q2) (.int .i32 Q3) (.int .i32 Q4); have hR := set4c (ud HZV) (int i64 Q1) (int i64 Q2) (.int .i32 Q3) (.int .i32 Q4); have hL := Nat.le_refl U.heap.size; generalize ((((V.setCell ⟨U.heap.size, 0, none⟩ (int i64 Q1)).setCell ⟨U.heap.size, 1, none⟩ (int i64 Q2)).setCell ⟨U.heap.size, 2, none⟩ (.int .i32 Q3)).setCell ⟨U.heap.size, 3, none⟩ (.int .i32 Q4)) = Y at hP hR ⊢; have CL := zac (ud CONT); generalize hzz : U.heap.size = z at hR hL ⊢; exact ud CONT z Y (by omega) hR hP))
 case hc =>
  intro z Y hLz hR hbY
  refine hK1 _ _ ?_
  clear HQ0 HQ1 HB1 HC1 hz1
  have hSY := (ud HSD).later hbY
  have y4 := (hbY.cell (p := ⟨s.p, 4, none⟩) hpl').trans c4
  have y9 := (hbY.cell (p := ⟨s.p, 9, none⟩) hpl').trans c9
  have ypl := Nat.lt_of_lt_of_le hpl' hbY.size
  have hkp : 0 <= c.keep t /\ c.keep t <= 1000 := by
   unfold Cf.keep
   split
   ·exact hc.ke
   ·exact hc.K _ (by omega)
  obtain ⟨k1, k2⟩ := hkp
  obtain ⟨nw1, nw2⟩ := hnow
  obtain ⟨la1, la2⟩ := hc.la
  have HKP := zac (skeep_any (hSY.later (Below.refl _ _).drew.drew) hc t ht.1 ht.2)
  have HSY := zac hSY
  have HR := zac hR
  have HBY := zac hbY
  have y0 := (hbY.cell (p := ⟨w.heap.size, 0, none⟩) hqz').trans n0'
  have yql := Nat.lt_of_lt_of_le hqz' hbY.size
  have Y0 := zac y0
  clear hSY hR hbY c0 c4 c9 n0' hpl' hqz' hpz hqzz y0
  go_wp2_with fail
  go_still (by kernel_rfl)
  go_wp2_with fail
  refine rstill_d (by kernel_rfl) (by kernel_rfl) ?_
  iterate 3 ((with_reducible refine wpStill_step (fun K hK => ?_)); go_simp; (with_reducible refine hK _ ?_); clear hK K)
  still_call (ud HKP)
  iterate 7 ((with_reducible refine wpStill_step (fun K hK => ?_)); go_simp; (with_reducible refine hK _ ?_); clear hK K)
  refine wpStill_nil ?_
  clear HKP y4 y9
  have e1 : IntKind.i64.wrap (m.now - c.la) = m.now - c.la := by rw [IntKind.wrap_i64]; omega
  have e2 : IntKind.i64.wrap (en + c.keep t) = en + c.keep t := by rw [IntKind.wrap_i64]; omega
  simp only [e1, e2]
  clear e1 e2
  have hcl : c.clo m.now (zaz c t x) ↔ en <= m.now - c.la := by
   unfold Cf.clo zaz
   dsimp only
   rw [ud HWN, ud HEN]
  have y0 : Y.drew.drew.cell? ⟨w.heap.size, 0, none⟩ = some (int i64 x.ser) := ud Y0
  have hql : w.heap.size < Y.drew.drew.heap.size := yql
  have hspl : s.p < Y.drew.drew.heap.size := ypl
  have HR2 : Hid (Y.drew.drew.heap[z]? = some (clObj ⟨Q1, Q2, Q3, Q4⟩)) := ud HR
  have HBY2 : Hid (Below w.heap.size w Y.drew.drew) := (ud HBX).trans (((ud HBY).drew.drew).mono (ud HBX).size)
  have HQ2 : Hid (Y.drew.drew.heap[w.heap.size]? = some (.cells #[int i64 x.ser, int i64 x.tm, .int .i32 x.val] 78 (0, 0))) := ((ud HBY).drew.drew.block _ (Nat.lt_of_lt_of_le (ud HQL) (ud HUX).size)).trans ((ud HUX).block _ (ud HQL) |>.trans (ud Q0))
  have HSY2 := zac ((ud HSY).later (Below.refl _ _).drew.drew)
  clear Y0 yql ypl HR HBY HSY HSD HBX
  have hT := ud HT
  clear HT
  generalize hov : en + c.keep t = ek at *
  rcases hT with ⟨h1, h2⟩ | ⟨h1, h2, h3⟩ | ⟨h1, h2, h3⟩ | ⟨h1, h2, h3, h4⟩
  ·injection h2 with h2a h2b
   subst h2b
   have hcb : decide (en <= m.now - c.la) = false := by simpa using fun e => h1 (hcl.2 e)
   simp only [hcb]
   clear hcl h1 h2a hov HALL
   go_wp2_with fail
   go_ret
   exact ⟨rfl, ud HBY2⟩
  ·subst h2
   have hcb : decide (en <= m.now - c.la) = true := by simpa using hcl.1 h1
   simp only [hcb]
   clear hcl h1
   have HC := zac (scell_any (ud HSY2) hc t ht x.ser wn (ud HNS) hlen)
   have HWT : Hid (all = true -> ek <= m.now -> waitsP c m t x) := fun h => (ud HALL h).2 rfl
   clear HALL
   have H3 : Hid (IsC (fun y => y.ser = x.ser /\ y.tm / c.width t = wn) ns ⟨Q1, Q2, Q3, Q4⟩) := h3.congr (fun y _ => by
    unfold zaz
    simp only [Sg.mk.injEq, true_and, ud HWN])
   clear h3
   go_wp2_with fail
   refine (ud HC).mono ?_
   rintro e V ⟨d, hd, rfl, hbv⟩
   have hdq : d = ⟨Q1, Q2, Q3, Q4⟩ := hd.one (ud H3)
   subst hdq
   dsimp only
   clear hd HC H3
   have hbA : Below Y.drew.drew.heap.size Y.drew.drew (V.alloc (.cells #[int i64 Q1, int i64 Q2, .int .i32 Q3, .int .i32 Q4] 114)) := hbv.alloc hbv.size _
   have hz2 := (hbA.block z (zaa (ud HR2))).trans (ud HR2)
   have hd2 := zag V (.cells #[int i64 Q1, int i64 Q2, .int .i32 Q3, .int .i32 Q4] 114)
   have hn2 := (hbA.block w.heap.size hql).trans (ud HQ2)
   have a0 : (V.alloc (.cells #[int i64 Q1, int i64 Q2, .int .i32 Q3, .int .i32 Q4] 114)).cell? ⟨z, 0, none⟩ = some (int i64 Q1) := by rw [zab hz2]; rfl
   have a1 : (V.alloc (.cells #[int i64 Q1, int i64 Q2, .int .i32 Q3, .int .i32 Q4] 114)).cell? ⟨z, 1, none⟩ = some (int i64 Q2) := by rw [zab hz2]; rfl
   have a2 : (V.alloc (.cells #[int i64 Q1, int i64 Q2, .int .i32 Q3, .int .i32 Q4] 114)).cell? ⟨z, 2, none⟩ = some (.int .i32 Q3) := by rw [zab hz2]; rfl
   have a3 : (V.alloc (.cells #[int i64 Q1, int i64 Q2, .int .i32 Q3, .int .i32 Q4] 114)).cell? ⟨z, 3, none⟩ = some (.int .i32 Q4) := by rw [zab hz2]; rfl
   have b0 : (V.alloc (.cells #[int i64 Q1, int i64 Q2, .int .i32 Q3, .int .i32 Q4] 114)).cell? ⟨V.heap.size, 0, none⟩ = some (int i64 Q1) := by rw [zab hd2]; rfl
   have b1 : (V.alloc (.cells #[int i64 Q1, int i64 Q2, .int .i32 Q3, .int .i32 Q4] 114)).cell? ⟨V.heap.size, 1, none⟩ = some (int i64 Q2) := by rw [zab hd2]; rfl
   have b2 : (V.alloc (.cells #[int i64 Q1, int i64 Q2, .int .i32 Q3, .int .i32 Q4] 114)).cell? ⟨V.heap.size, 2, none⟩ = some (.int .i32 Q3) := by rw [zab hd2]; rfl
   have b3 : (V.alloc (.cells #[int i64 Q1, int i64 Q2, .int .i32 Q3, .int .i32 Q4] 114)).cell? ⟨V.heap.size, 3, none⟩ = some (.int .i32 Q4) := by rw [zab hd2]; rfl
   have n0 : (V.alloc (.cells #[int i64 Q1, int i64 Q2, .int .i32 Q3, .int .i32 Q4] 114)).cell? ⟨w.heap.size, 0, none⟩ = some (int i64 x.ser) := by rw [zab hn2]; rfl
   have n1 : (V.alloc (.cells #[int i64 Q1, int i64 Q2, .int .i32 Q3, .int .i32 Q4] 114)).cell? ⟨w.heap.size, 1, none⟩ = some (int i64 x.tm) := by rw [zab hn2]; rfl
   have n2 : (V.alloc (.cells #[int i64 Q1, int i64 Q2, .int .i32 Q3, .int .i32 Q4] 114)).cell? ⟨w.heap.size, 2, none⟩ = some (.int .i32 x.val) := by rw [zab hn2]; rfl
   have lz := zaa hz2
   have ld := zaa hd2
   have ln := zaa hn2
   have HSV := zac ((ud HSY2).later hbA)
   have HBV := zac ((ud HBY2).trans (hbA.mono (ud HBY2).size))
   clear hbA hz2 hd2 hn2 hbv y0 HSY2 HBY2 HQ2 HR2
   cases all with
   | false =>
    go_wp2_with fail
    go_ret
    exact ⟨rfl, ud HBV⟩
   | true =>
    by_cases hoe : ek <= m.now
    ·have hob : decide (ek <= m.now) = true := by simpa using hoe
     have hwt : waitsP c m t x := by
      have h := ud HWT
      first | exact h rfl hoe | exact h hoe
     have HW := zac (swaits_any (ud HSV) hc ⟨nw1, nw2⟩ t ht x ⟨x1, by omega⟩ ⟨x3, x4⟩)
     go_wp2_with fail
     refine (ud HW).mono ?_
     rintro e V2 ⟨⟨bb, rfl, hbb⟩, hbv⟩
     have hbf : bb = true := hbb.2 hwt
     subst hbf
     have HBV2 := zac ((ud HBV).trans (hbv.mono (ud HBV).size))
     clear hbv HW hbb
     go_wp2_with fail
     go_ret
     exact ⟨rfl, ud HBV2⟩
    ·have hob : decide (ek <= m.now) = false := by simpa using hoe
     clear hoe
     go_wp2_with fail
     go_ret
     exact ⟨rfl, ud HBV⟩
  ·injection h2 with h2a h2b
   subst h2b
   have hcb : decide (en <= m.now - c.la) = true := by simpa using hcl.1 h1
   have hal : all = false := by
    cases all with
    | false => rfl
    | true => exact absurd rfl (ud HALL rfl).1
   subst hal
   simp only [hcb]
   clear hcl h1 h2a hov HALL
   go_wp2_with fail
   go_ret
   exact ⟨rfl, ud HBY2⟩
  ·injection h2 with h2a h2b
   subst h2b
   have hcb : decide (en <= m.now - c.la) = true := by simpa using hcl.1 h1
   have hob : decide (ek <= m.now) = true := by
    have : ek <= m.now := by
     rw [<- hov, <- ud HEN, <- ud HWN]; exact h3
    simpa using this
   have hnw : ¬ waitsP c m t x := fun ⟨k, hk, hF, q0, q12⟩ => by
    have := h4 k hk hF
    rw [width_nat] at this
    exact this.elim q0 q12
   simp only [hcb, hob]
   clear hcl h1 h2a hov HALL h3 h4
   have HW := zac (swaits_any (ud HSY2) hc ⟨nw1, nw2⟩ t ht x ⟨x1, by omega⟩ ⟨x3, x4⟩)
   have y1 : Y.drew.drew.cell? ⟨w.heap.size, 1, none⟩ = some (int i64 x.tm) := by rw [zab (ud HQ2)]; rfl
   have y2 : Y.drew.drew.cell? ⟨w.heap.size, 2, none⟩ = some (.int .i32 x.val) := by rw [zab (ud HQ2)]; rfl
   go_wp2_with fail
   refine (ud HW).mono ?_
   rintro e V ⟨⟨bb, rfl, hbb⟩, hbv⟩
   have hbf : bb = false := by
    cases bb with
    | false => rfl
    | true => exact absurd (hbb.1 rfl) hnw
   subst hbf
   have HBV := zac ((ud HBY2).trans (hbv.mono (ud HBY2).size))
   clear hbv HW hbb
   go_wp2_with fail
   go_ret
   exact ⟨rfl, ud HBV⟩
def DoneAll (c : Cf) (m : MS) (ns : List Nm) : Prop := ∀ x ∈ ns, ∀ t : Int, -1 <= t -> t < c.n -> (zct c m.now m.Gl m.L t x.ser (x.tm / c.width t)).2 ≠ 11 /\ ((zct c m.now m.Gl m.L t x.ser (x.tm / c.width t)).2 = 0 -> (x.tm / c.width t + 1) * c.width t + c.keep t <= m.now -> waitsP c m t x)
set_option maxRecDepth 20000 in
set_option maxHeartbeats 4000000 in
theorem sright_any {w : World} {B : Nat} {s : Shp} {c : Cf} {ep : Int} {m : MS} {ns : List Nm} {ks : List Tok} {us : List Int} (h : zbn w B s c ep m m.now ns ks us) (hc : c.ok) (hf : c.fits) (hm : MOk c ep m) (hi : RInv c m ns) (hlen : ns.length < 4398046511104) (all : Bool) (hall : all = true -> DoneAll c m ns) :
  Calls Tryz.prog 12 #[.pointer (some ⟨s.p, 0, none⟩), .bool all] w fun e w' => e = .returned (.bool true) /\ Below w.heap.size w w' := by
 have H := zac h
 have HTD := fun (W : World) (hW : Below w.heap.size w W) (x : Nm) (hx : x ∈ ns) (t : Int) (ht : -1 <= t /\ t < c.n) => zac (stold_any (h.later hW) hc hf hm hi hlen x hx t ht all (fun e => hall e x hx t ht.1 ht.2))
 obtain ⟨an, cn, hnv⟩ := zbt h.nrow
 obtain ⟨b, off, cap, hct, hbl, hcl⟩ := h.tiers hc
 have hn4 := hc.n4
 clear h hm hi hall hf hcl
 go_enter Tryz.func12, Tryz.ntmps12
 go_wp2_with fail
 go_loopw [5, 6, 7] (fun y _ _ wr => ∃ k : Nat, k <= ns.length /\ y = int i64 k /\ Below w.heap.size w wr) (fun y _ _ _ => ns.length - (intOf y).toNat)
 case atStart => exact ⟨0, Nat.zero_le _, rfl, Below.refl _ _⟩
 case round =>
  obtain ⟨k, hk, rfl, hb⟩ := hrel
  have hS := (ud H).later hb
  obtain ⟨-, -, -, -, -, c8, -, c10, -, -⟩ := hS.cells
  rw [hnv] at c10
  rw [hct] at c8
  have hpl := hS.lt
  have hli : (ns.length : Int) < 4398046511104 := by omega
  have hni : (c.n : Int) <= 4 := by omega
  have HS := zac hS
  have HB := zac hb
  by_cases hlt : k < ns.length
  ·obtain ⟨x, hx⟩ := rget_of_lt hlt
   have hxm := List.mem_of_getElem? hx
   have hkn : (k : Int) < ns.length := by omega
   clear hS hb
   go_wp2_with fail
   go_loopw [6, 7] (fun y _ wr => ∃ j : Nat, j <= c.n + 1 /\ y = int i64 ((j : Int) - 1) /\ Below w.heap.size w wr) (fun y _ _ => c.n + 1 - (intOf y + 1).toNat)
   case atStart => exact ⟨0, Nat.zero_le _, rfl, ud HB⟩
   case round =>
    obtain ⟨j, hj, rfl, hb⟩ := hrel
    have hS := (ud H).later hb
    obtain ⟨-, -, -, -, -, d8, -, d10, -, -⟩ := hS.cells
    rw [hnv] at d10
    rw [hct] at d8
    have hpl2 := hS.lt
    have HB2 := zac hb
    by_cases hjl : j < c.n + 1
    ·have hjt : (j : Int) - 1 < c.n := by omega
     have hnr := hS.nrow
     rw [hnv] at hnr
     obtain ⟨g, cap', hv, _, hgz, y0, y1, y2⟩ := nm_at hnr hx
     have hv' : an = some ⟨g, 0, none⟩ := by injection hv
     subst hv'
     have HT := HTD _ hb x hxm ((j : Int) - 1) ⟨by omega, hjt⟩
     clear hS hb hnr hv
     go_wp2_with fail
     refine (ud HT).mono ?_
     rintro e V ⟨rfl, hbv⟩
     have HBV := zac ((ud HB2).trans (hbv.mono (ud HB2).size))
     clear hbv HT
     go_wp2_with fail
     go_roundw
     case rel => exact ⟨j + 1, by omega, by go_num, ud HBV⟩
     case measure => simp [intOf]; omega
    ·have hjn : (j : Int) - 1 = c.n := by omega
     have hnl : decide ((j : Int) - 1 < c.n) = false := by simp; omega
     clear hS hb
     go_wp2_with fail
     go_roundw
     case rel => exact ⟨k + 1, by omega, by go_num, ud HB2⟩
     case measure => simp [intOf]; omega
  ·have hkk : k = ns.length := by omega
   subst hkk
   have hnl : decide ((ns.length : Int) < ns.length) = false := by simp
   clear hS hb
   go_wp2_with fail
   go_ret
   exact ⟨rfl, ud HB⟩
end Go.Proofs.YtpbimdkclnekeaaGreat

namespace Go.Proofs.YtpbimdkclnekeaaGreat
open Go.RowKit Go.Maps Go.Shelf
set_option linter.unusedVariables false
def PComp (c : Cf) (m : MS) : Prop := ∃ Bs : List (Sg × Unit), (∀ x, x ∈ zas Bs ↔ ∃ k, k ∈ zaq m.L /\ (stL m.L k).st = 2 /\ x ∈ hangL c k) /\ (∀ s, s ∈ zaq m.L -> rollB c Bs m.L m.now s = true -> (⟨1, s⟩ : Jk) ∈ zas m.TL) /\ (∀ s, s ∈ zaq m.L -> reclB c m.L m.now s = true -> (⟨2, s⟩ : Jk) ∈ zas m.TL)
theorem postR_keys {now : Int} : ∀ (ys : List Sg) {T : List (Jk × Tsk)}, (∀ k, k ∈ zas T -> k ∈ zas (ys.foldl (postR now) T)) /\ ∀ s ∈ ys, (⟨1, s⟩ : Jk) ∈ zas (ys.foldl (postR now) T)
 | [], T => ⟨fun _ h => h, fun s hs => by cases hs⟩
 | y :: ys, T => by
  have h1 : ∀ k, k ∈ zas T \/ k = ⟨1, y⟩ -> k ∈ zas (postR now T y) := fun k hk => by
   unfold postR
   split
   ·rename_i x hx
    rcases hk with hk | rfl
    ·exact hk
    ·exact List.mem_map.2 ⟨_, zbj hx, rfl⟩
   ·exact zcg.2 hk
  obtain ⟨h2, h3⟩ := postR_keys ys (T := postR now T y)
  refine ⟨fun k hk => h2 k (h1 k (.inl hk)), fun s hs => ?_⟩
  rcases List.mem_cons.1 hs with rfl | hs
  ·exact h2 _ (h1 _ (.inr rfl))
  ·exact h3 s hs
theorem postC_keys {now : Int} : ∀ (ys : List Sg) {T : List (Jk × Tsk)}, (∀ k, k ∈ zas T -> k ∈ zas (ys.foldl (postC now) T)) /\ ∀ s ∈ ys, (⟨2, s⟩ : Jk) ∈ zas (ys.foldl (postC now) T)
 | [], T => ⟨fun _ h => h, fun s hs => by cases hs⟩
 | y :: ys, T => by
  have h1 : ∀ k, k ∈ zas T \/ k = ⟨2, y⟩ -> k ∈ zas (postC now T y) := fun k hk => by
   unfold postC
   split
   ·rename_i x hx
    rcases hk with hk | rfl
    ·exact hk
    ·exact List.mem_map.2 ⟨_, zbj hx, rfl⟩
   ·exact zcg.2 hk
  obtain ⟨h2, h3⟩ := postC_keys ys (T := postC now T y)
  refine ⟨fun k hk => h2 k (h1 k (.inl hk)), fun s hs => ?_⟩
  rcases List.mem_cons.1 hs with rfl | hs
  ·exact h2 _ (h1 _ (.inr rfl))
  ·exact h3 s hs
section
variable {c : Cf} {ep : Int} {m : MS} {ns : List Nm}
theorem PComp.of {TL' : List (Jk × Tsk)} (hp : zey c m TL') : PComp c { m with TL := TL' } := by
 obtain ⟨Bs, ys1, ys2, hB, h1, h2, rfl⟩ := hp.to
 exact ⟨Bs, hB, fun s hs hr => (postC_keys ys2).1 _ ((postR_keys ys1).2 s ((h1 s).2 ⟨hs, hr⟩)), fun s hs hr => (postC_keys ys2).2 s ((h2 s).2 ⟨hs, hr⟩)⟩
theorem post_rest {TL' : List (Jk × Tsk)} (hp : zey c m TL') (hn : 0 <= m.now) (h : ∀ p ∈ m.TL, p.2.rest <= m.now) : ∀ p ∈ TL', p.2.rest <= m.now := by
 obtain ⟨Bs, ys1, ys2, hB, h1, h2, rfl⟩ := hp.to
 have hR : ∀ (ys : List Sg) (T : List (Jk × Tsk)), (∀ p ∈ T, p.2.rest <= m.now) -> ∀ p ∈ ys.foldl (postR m.now) T, p.2.rest <= m.now := fun ys => by
  induction ys with
  | nil => exact fun T hT => hT
  | cons y ys ih =>
   intro T hT
   refine ih _ (fun p hp => ?_)
   unfold postR at hp
   split at hp
   ·exact hT p hp
   ·rcases zef hp with rfl | ⟨hp, _⟩
    ·exact hn
    ·exact hT p hp
 have hC : ∀ (ys : List Sg) (T : List (Jk × Tsk)), (∀ p ∈ T, p.2.rest <= m.now) -> ∀ p ∈ ys.foldl (postC m.now) T, p.2.rest <= m.now := fun ys => by
  induction ys with
  | nil => exact fun T hT => hT
  | cons y ys ih =>
   intro T hT
   refine ih _ (fun p hp => ?_)
   unfold postC at hp
   split at hp
   ·exact hT p hp
   ·rcases zef hp with rfl | ⟨hp, _⟩
    ·exact hn
    ·exact hT p hp
 exact hC ys2 _ (hR ys1 _ h)
theorem hang_clo (hc : c.ok) (hf : c.fits) {now : Int} {s k : Sg} (hk : inR c k) (h : s ∈ hangL c k) (hs : c.clo now s) : ∃ j : Nat, j < c.n /\ s.t = j /\ c.F j = k.t /\ c.clo now k := by
 unfold hangL aboL at h
 rw [List.map_map] at h
 obtain ⟨j, hj, rfl⟩ := List.mem_map.1 h
 obtain ⟨hj1, hj2⟩ := List.mem_filter.1 hj
 have hjn : j < c.n := by simpa using hj1
 have hF : c.F j = k.t := by simpa using hj2
 refine ⟨j, hjn, rfl, hF, ?_⟩
 obtain ⟨q, hq1, hq⟩ := hf.quot j hjn
 rw [hF] at hq
 have hw := (hc.width hk.2.1 hk.2.2.1).1
 unfold Cf.clo at hs ⊢
 dsimp only [Function.comp] at hs
 rw [width_nat, hq, Int.mul_comm k.win, Int.mul_ediv_mul_of_pos _ _ (by omega)] at hs
 have h1 : k.win < (k.win / q + 1) * q := Int.lt_ediv_add_one_mul_self _ (by omega)
 have h2 : (k.win + 1) * c.width k.t <= (k.win / q + 1) * q * c.width k.t := Int.mul_le_mul_of_nonneg_right (by omega) (by omega)
 have h3 : (k.win / q + 1) * q * c.width k.t = (k.win / q + 1) * (c.width k.t * q) := by rw [Int.mul_assoc, Int.mul_comm q]
 omega
theorem no_wait (hc : c.ok) (hf : c.fits) (hm : MOk c ep m) (hp : PComp c m) (h0 : m.TL = []) : ∀ (k : Nat) (s : Sg), s.t = k -> Wt m.L s -> c.clo m.now s -> False := by
 obtain ⟨Bs, hB, h1, h2⟩ := hp
 intro k
 induction k using Nat.strongRecOn with
 | _ k ih =>
  intro s hk hw hcl
  obtain ⟨hsk, hst⟩ := wt_stL hm.seg.nl hw
  by_cases hb : s ∈ zas Bs
  ·obtain ⟨k', hk', hst', hh⟩ := (hB s).1 hb
   have hin : inR c k' := hm.seg.inr _ (zcc hk')
   obtain ⟨j, hj, hsj, hFj, hcl'⟩ := hang_clo hc hf hin hh hcl
   have hF := hf.down j hj
   by_cases ht : k'.t = -1
   ·have := (hm.seg.raw _ (zcc hk') ht).1
    simp only at this
    omega
   ·have hge : -1 <= k'.t := hin.2.1
    exact ih k'.t.toNat (by omega) k' (by omega) ⟨_, zcc hk', hst'⟩ hcl'
  ·have hr : rollB c Bs m.L m.now s = true := by
    unfold rollB
    rw [zdb.2 hb, hst]
    unfold Cf.clo at hcl
    simpa using hcl
   have := h1 s hsk hr
   rw [h0] at this
   simp [zas] at this
theorem done_all (hc : c.ok) (hf : c.fits) (hm : MOk c ep m) (hi : RInv c m ns) (hp : PComp c m) (h0 : m.TL = []) : DoneAll c m ns := fun x hx t ht1 ht2 => by
 have hnw := no_wait hc hf hm hp h0
 have hqv : ∀ (t : Int), -1 <= t -> t < c.n -> c.clo m.now (zaz c t x) -> zct c m.now m.Gl m.L t x.ser (x.tm / c.width t) = zdq (stG m.Gl m.L (zaz c t x)) := fun t h1 h2 hcl => by
  unfold Cf.clo at hcl
  unfold zct
  rw [if_neg (by simp only [zaz] at hcl; omega)]
  rfl
 have hnot : ∀ k : Nat, k < c.n -> Wt m.L (zaz c k x) -> (zct c m.now m.Gl m.L k x.ser (x.tm / c.W k)).2 = 9 := fun k hk hw => by
  have hncl : ¬ c.clo m.now (zaz c (k : Int) x) := fun h => hnw k _ rfl hw h
  unfold Cf.clo at hncl
  unfold zct
  rw [if_pos (by simp only [zaz] at hncl; rw [width_nat] at hncl ⊢; omega)]
 have hT := hi.told hc hf hm hx ht1 ht2
 refine ⟨fun e => ?_, fun e hov => ?_⟩
 ·rcases hT with ⟨h1, h2⟩ | ⟨h1, h2, h3⟩ | ⟨h1, h2, h3⟩ | ⟨h1, h2, h3, h4⟩
  ·rw [h2] at e; simp at e
  ·rw [h2] at e; simp at e
  ·rw [hqv t ht1 ht2 h1] at e
   have hg : zaz c t x ∉ zas m.Gl := fun hg => by unfold zdq at e; rw [stG_gone hg] at e; simp at e
   have hk : zaz c t x ∈ zaq m.L := (hi.keys x hx t ht1 ht2).resolve_right hg
   rw [stG_live hg] at e
   have h2' : (stL m.L (zaz c t x)).st = 2 := by
    unfold zdq at e
    rcases hm.seg.sts _ (zcc hk) with h | h | h
    ·simp only at h; rw [h] at e; simp at e
    ·exact h
    ·simp only at h; rw [h] at e; simp at e
   exact hnw t.toNat (zaz c t x) (by show t = _; omega) ⟨_, zcc hk, h2'⟩ h1
  ·rw [h2] at e; simp at e
 ·rcases hT with ⟨h1, h2⟩ | ⟨h1, h2, h3⟩ | ⟨h1, h2, h3⟩ | ⟨h1, h2, h3, h4⟩
  ·rw [h2] at e; simp at e
  ·rw [hqv t ht1 ht2 h1] at e
   have hg : zaz c t x ∉ zas m.Gl := fun hg => by unfold zdq at e; rw [stG_gone hg] at e; simp at e
   have hk : zaz c t x ∈ zaq m.L := (hi.keys x hx t ht1 ht2).resolve_right hg
   have hin := hm.seg.inr _ (zcc hk)
   rw [stG_live hg] at e
   have h2' : (stL m.L (zaz c t x)).st ≠ 2 := fun h => by unfold zdq at e; rw [h] at e; simp at e
   obtain ⟨Bs, hB, hp1, hp2⟩ := hp
   apply Classical.byContradiction
   intro hnwt
   have hr : reclB c m.L m.now (zaz c t x) = true := by
    unfold reclB
    have hhb : hangsB c m.L (zaz c t x) = true := by
     unfold hangsB
     have h5 : ((hangW c (zaz c t x)).filter (fun y => (stL m.L y.1).st == 2)) = [] := by
      rw [List.filter_eq_nil_iff]
      intro y hy hy2
      have hyh := (hangW_mem hc hin y.1).1 (List.mem_map.2 ⟨y, hy, rfl⟩)
      have hy2' : (stL m.L y.1).st = 2 := by simpa using hy2
      have hyk : y.1 ∈ zaq m.L := by
       apply Classical.byContradiction
       intro hn
       have : stL m.L y.1 = ⟨0, zdn⟩ := by unfold stL; rw [getL_none.2 hn]; rfl
       rw [this] at hy2'; simp at hy2'
      unfold hangL aboL at hyh
      rw [List.map_map] at hyh
      obtain ⟨j, hj, ej⟩ := List.mem_map.1 hyh
      obtain ⟨hj1, hj2⟩ := List.mem_filter.1 hj
      have hjn : j < c.n := by simpa using hj1
      have hF : c.F j = t := by have : c.F j = (zaz c t x).t := by simpa using hj2
                                exact this
      have hyx : y.1 = zaz c j x := by
       rw [<- ej]
       show (⟨(j : Int), x.ser, x.tm / c.width t * c.width t / c.W j⟩ : Sg) = zaz c j x
       have := seg_up hc hf (hi.tm x hx).1 hjn
       rw [hF] at this
       rw [this]
       unfold zaz; rw [width_nat]
      rw [hyx] at hyk hy2'
      have h9 := hnot j hjn ⟨_, zcc hyk, hy2'⟩
      exact hnwt ⟨j, hjn, hF, by unfold qcode; rw [h9]; omega, by unfold qcode; rw [h9]; omega⟩
     rw [h5]; rfl
    rw [hhb]
    simp only [Bool.and_true, Bool.and_eq_true, Bool.not_eq_true', beq_eq_false_iff_ne, ne_eq, decide_eq_true_eq]
    exact ⟨h2', hov⟩
   have := hp2 _ hk hr
   rw [h0] at this
   simp [zas] at this
  ·rw [h2] at e; simp at e
  ·rw [h2] at e; simp at e
end
structure DInv (c : Cf) (ep : Int) (m : MS) (ns : List Nm) : Prop where
 ok : SOk c ep m ns.length
 inv : RInv c m ns
 comp : PComp c m
 free : m.QL = []
 rest : ∀ p ∈ m.TL, p.2.rest <= m.now
def phiV (v : SV) : Int := if v.st = 2 then 2 else 1
def phi (L : LV) : Int := zdt (L.map (fun p => phiV p.2))
theorem phi_bounds : ∀ (L : LV), (∀ p ∈ L, p.2.st = 1 \/ p.2.st = 2 \/ p.2.st = 3) -> 0 <= phi L /\ phi L <= 2 * (zad L 1 + zad L 2 + zad L 3)
 | [], _ => by simp [phi, zad, zdt]
 | p :: L, h => by
  have ih := phi_bounds L (fun q hq => h q (by simp [hq]))
  have hp := h p (by simp)
  unfold phi zad at *
  simp only [List.map_cons, zdt]
  have h1 : phiV p.2 = (if p.2.st = 2 then 2 else 1) := rfl
  have h2 : isSt 1 p.2 = (if p.2.st = 1 then 1 else 0) := rfl
  have h3 : isSt 2 p.2 = (if p.2.st = 2 then 1 else 0) := rfl
  have h4 : isSt 3 p.2 = (if p.2.st = 3 then 1 else 0) := rfl
  rw [h1, h2, h3, h4]
  rcases hp with hp | hp | hp <;> rw [hp] <;> simp <;> omega
section
variable {c : Cf} {ep : Int} {m m1 m2 : MS} {ns : List Nm}
theorem exps_sub0 {now : Int} {TL : List (Jk × Tsk)} {QL : List (Tok × Lse)} {T1 : List (Jk × Tsk)} {Q1 : List (Tok × Lse)} (h : Exps now TL QL T1 Q1) : ∀ q ∈ Q1, q ∈ QL := by
 induction h with
 | nil => exact fun q hq => hq
 | step h1 h2 h3 h4 ih => exact fun q hq => ih q (zbw.1 hq).1
theorem exps_nil0 {now : Int} {TL : List (Jk × Tsk)} {T1 : List (Jk × Tsk)} {Q1 : List (Tok × Lse)} (h : Exps now TL [] T1 Q1) : T1 = TL /\ Q1 = [] := by
 cases h with
 | nil => exact ⟨rfl, rfl⟩
 | step h1 h2 h3 h4 => exact absurd (exps_sub0 h1 _ (zbj h2)) (by simp)
theorem act_tick {n : Int} {ns' : List Nm} (hn : 1 <= n) (h : Act1 c ep m ns m1 ns') (hnow : m1.now = m.now + n) : ∃ TL1 TL' QL1, Exps (m.now + n) m.TL m.QL TL1 QL1 /\ (∀ p ∈ QL1, m.now + n < p.2.til) /\ zey c { m with now := m.now + n, TL := TL1, QL := QL1 } TL' /\ m1 = { m with now := m.now + n, TL := TL', QL := QL1 } := by
 cases h with
 | same => omega
 | added x => exact absurd hnow (by show ¬ m.now = m.now + n; omega)
 | ticked k TL1 TL' QL1 h1 h2 he hq hp =>
  have hk : k = n := by have : m.now + k = m.now + n := hnow; omega
  subst hk
  exact ⟨TL1, TL', QL1, he, hq, hp, rfl⟩
 | taken => exact absurd hnow (by show ¬ m.now = m.now + n; omega)
 | failed => exact absurd hnow (by show ¬ m.now = m.now + n; omega)
 | rolled => exact absurd hnow (by show ¬ m.now = m.now + n; omega)
 | reclaimed => exact absurd hnow (by show ¬ m.now = m.now + n; omega)
theorem DInv.start (hc : c.ok) (hf : c.fits) (hs : SOk c ep m ns.length) (hi : RInv c m ns) (hlen : (ns.length : Int) < 9223372036854775808) (h1 : Act1 c ep m ns m1 ns) (n1 : m1.now = m.now + 100) (h2 : Act1 c ep m1 ns m2 ns) (n2 : m2.now = m1.now + 32) : DInv c ep m2 ns := by
 have hs1 := h1.ok hc hf hs
 have hi1 := hi.act hc hf hs hlen h1
 have hs2 := h2.ok hc hf hs1
 have hi2 := hi1.act hc hf hs1 hlen h2
 have hle := hc.le
 obtain ⟨T1, T1', Q1, he1, hq1, hp1, e1⟩ := act_tick (by omega) h1 n1
 have hQ1 : m1.QL = [] := by
  rw [e1]
  cases hQ : Q1 with
  | nil => rfl
  | cons q Q =>
   have hqm : q ∈ Q1 := by rw [hQ]; simp
   have a := hq1 q hqm
   have b := (hs.ok.leas q (exps_sub0 he1 q hqm)).til
   omega
 obtain ⟨T2, T2', Q2, he2, hq2, hp2, e2⟩ := act_tick (by omega) h2 n2
 rw [hQ1] at he2
 obtain ⟨eT, eQ⟩ := exps_nil0 he2
 subst eT eQ
 have hr : ∀ p ∈ m1.TL, p.2.rest <= m1.now + 32 := fun p hp => (hs1.ok.tasks p hp).tries.2.2
 have hnow := hs1.ok.now
 have hr2 := post_rest hp2 (show 0 <= m1.now + 32 by omega) hr
 have hc2 := PComp.of hp2
 subst e2
 exact ⟨hs2, hi2, hc2, rfl, hr2⟩
theorem DInv.free_all (h : DInv c ep m ns) {p : Jk × Tsk} (hp : p ∈ m.TL) : freeB m.QL m.now p.2 = true := by
 unfold freeB leasedB
 rw [h.free]
 have := h.rest p hp
 simpa using this
theorem DInv.idle (h : DInv c ep m ns) (hi : ∀ p ∈ m.TL, freeB m.QL m.now p.2 = false) : m.TL = [] := by
 cases hT : m.TL with
 | nil => rfl
 | cons p T =>
  have hp : p ∈ m.TL := by rw [hT]; simp
  have := hi p hp
  rw [h.free_all hp] at this
  cases this
theorem get_one {t : Tok} {g : Lse} : zbq [(t, g)] t = some g := by simp [zbq]
theorem del_one {t : Tok} {g : Lse} : zby [(t, g)] t = [] := by simp [zby]
def zdm (ep : Int) (c : Cf) (m : MS) (p : Jk × Tsk) : MS := { m with num := m.num + 1, QL := zdz m.QL ⟨ep, m.num + 1⟩ ⟨p.2.kd, p.2.s, 0, m.now + c.le⟩ }
theorem DInv.taken (hc : c.ok) (hf : c.fits) (h : DInv c ep m ns) (hlen : (ns.length : Int) < 9223372036854775808) {p : Jk × Tsk} (hp : p ∈ m.TL) :
  SOk c ep (zdm ep c m p) ns.length /\ RInv c (zdm ep c m p) ns /\ (zdm ep c m p).QL = [(⟨ep, m.num + 1⟩, ⟨p.2.kd, p.2.s, 0, m.now + c.le⟩)] /\ zbq (zdm ep c m p).QL ⟨ep, m.num + 1⟩ = some ⟨p.2.kd, p.2.s, 0, m.now + c.le⟩ /\ zbq (zdm ep c m p).TL ⟨p.2.kd, p.2.s⟩ = some p.2 := by
 have ha := Act1.taken (c := c) (ep := ep) m ns p 0 hp (h.free_all hp)
 have hq : (zdm ep c m p).QL = [(⟨ep, m.num + 1⟩, ⟨p.2.kd, p.2.s, 0, m.now + c.le⟩)] := by unfold zdm; rw [h.free]; rfl
 refine ⟨ha.ok hc hf h.ok, h.inv.act hc hf h.ok hlen ha, hq, by rw [hq]; exact get_one, ?_⟩
 have hk := (h.ok.ok.tasks p hp).key
 exact zej h.ok.ok.nt (by rw [show (⟨p.2.kd, p.2.s⟩ : Jk) = p.1 from hk.symm]; exact hp)
theorem DInv.roll (hc : c.ok) (hf : c.fits) (h : DInv c ep m ns) (hlen : (ns.length : Int) < 9223372036854775808) {p : Jk × Tsk} (hp : p ∈ m.TL) {s : Sg} {since tries rest : Int} (hx : p.2 = ⟨true, s, since, tries, rest⟩) {k : Nat} (hk : s.t = k) {TL' : List (Jk × Tsk)}
  (hP : zey c { zdm ep c m p with L := zeg m.L s ⟨3, zcd (zcf c m.L s.ser s.win k)⟩, Gl := m.Gl, TL := zby m.TL ⟨p.2.kd, p.2.s⟩, QL := zby (zdm ep c m p).QL ⟨ep, m.num + 1⟩ } TL') :
  DInv c ep { zdm ep c m p with L := zeg m.L s ⟨3, zcd (zcf c m.L s.ser s.win k)⟩, Gl := m.Gl, TL := TL', QL := zby (zdm ep c m p).QL ⟨ep, m.num + 1⟩ } ns /\ phi (zeg m.L s ⟨3, zcd (zcf c m.L s.ser s.win k)⟩) = phi m.L - 1 := by
 obtain ⟨t1, t2, t3, t4, t5⟩ := h.taken hc hf hlen hp
 have t5' : zbq (zdm ep c m p).TL (⟨p.2.kd, p.2.s, 0, m.now + c.le⟩ : Lse).job = some ⟨true, s, since, tries, rest⟩ := by rw [<- hx]; exact t5
 have ha := Act1.rolled (c := c) (ep := ep) (zdm ep c m p) ns _ _ s since tries rest k TL' t4 t5' hk hP
 have hph := (t1.ok.rolled t4 t5' rfl (zcd (zcf c m.L s.ser s.win k))).2.1 phiV
 have hst := (t1.ok.rolled t4 t5' rfl (zcd (zcf c m.L s.ser s.win k))).2.2.1
 have hrr := post_rest hP (show 0 <= m.now from h.ok.ok.now.1) (fun q hq => h.rest q (zbw.1 (show q ∈ zby m.TL ⟨p.2.kd, p.2.s⟩ from hq)).1)
 refine ⟨⟨ha.ok hc hf t1, t2.act hc hf t1 hlen ha, PComp.of hP, by rw [t3]; exact del_one, hrr⟩, ?_⟩
 have e1 : phiV (stL (zdm ep c m p).L s) = 2 := by unfold phiV; rw [if_pos hst]
 have e2 : phiV ⟨3, zcd (zcf c m.L s.ser s.win k)⟩ = 1 := by unfold phiV; simp
 have h9 : phi (zeg m.L s ⟨3, zcd (zcf c m.L s.ser s.win k)⟩) = phi m.L - phiV (stL (zdm ep c m p).L s) + phiV ⟨3, zcd (zcf c m.L s.ser s.win k)⟩ := hph
 rw [h9, e1, e2]
 omega
theorem DInv.reclaim (hc : c.ok) (hf : c.fits) (h : DInv c ep m ns) (hlen : (ns.length : Int) < 9223372036854775808) {p : Jk × Tsk} (hp : p ∈ m.TL) {s : Sg} {since tries rest : Int} (hx : p.2 = ⟨false, s, since, tries, rest⟩) {TL' : List (Jk × Tsk)}
  (hP : zey c { zdm ep c m p with L := zby m.L s, Gl := zdz m.Gl s (), TL := zby m.TL ⟨p.2.kd, p.2.s⟩, QL := zby (zdm ep c m p).QL ⟨ep, m.num + 1⟩ } TL') :
  DInv c ep { zdm ep c m p with L := zby m.L s, Gl := zdz m.Gl s (), TL := TL', QL := zby (zdm ep c m p).QL ⟨ep, m.num + 1⟩ } ns /\ phi (zby m.L s) = phi m.L - 1 := by
 obtain ⟨t1, t2, t3, t4, t5⟩ := h.taken hc hf hlen hp
 have t5' : zbq (zdm ep c m p).TL (⟨p.2.kd, p.2.s, 0, m.now + c.le⟩ : Lse).job = some ⟨false, s, since, tries, rest⟩ := by rw [<- hx]; exact t5
 have ha := Act1.reclaimed (c := c) (ep := ep) (zdm ep c m p) ns _ _ s since tries rest TL' t4 t5' hP
 have hph := (t1.ok.reclaimed t4 t5' rfl).2.1 phiV
 have hst := (t1.ok.reclaimed t4 t5' rfl).2.2.1
 have hrr := post_rest hP (show 0 <= m.now from h.ok.ok.now.1) (fun q hq => h.rest q (zbw.1 (show q ∈ zby m.TL ⟨p.2.kd, p.2.s⟩ from hq)).1)
 refine ⟨⟨ha.ok hc hf t1, t2.act hc hf t1 hlen ha, PComp.of hP, by rw [t3]; exact del_one, hrr⟩, ?_⟩
 unfold phi
 have e1 : phiV (stL (zdm ep c m p).L s) = 1 := by unfold phiV; rw [if_neg hst]
 have := hph
 show zdt ((zby m.L s).map (fun p => phiV p.2)) = zdt (m.L.map (fun p => phiV p.2)) - 1
 rw [<- e1]
 exact this
end
end Go.Proofs.YtpbimdkclnekeaaGreat

namespace Go.Proofs.YtpbimdkclnekeaaGreat
open Value (int)
open IntKind (i64)
open Go.RowKit Go.Maps Go.Shelf
set_option linter.unusedVariables false
set_option maxHeartbeats 1000000 in
theorem drain_commit {w : World} {i : Ids} {c : Cf} {m : MS} {ns : List Nm} {p : Jk × Tsk} (h : zat w i c 1 (zdm 1 c m p)) (hc : c.ok) (hf : c.fits) (hd : DInv c 1 m ns) (hlen : (ns.length : Int) < 9223372036854775808) (hp : p ∈ m.TL) (hnum : m.num <= 1000000000000000) :
  Calls Tryz.prog 18 #[.pointer (some ⟨i.x, 0, none⟩), .agg #[int i64 1, int i64 (m.num + 1)]] w fun e w' => e = .returned (int i64 0) /\ ∃ m', zat w' i c 1 m' /\ zaj (zbx i) w w' /\ DInv c 1 m' ns /\ phi m'.L = phi m.L - 1 /\ m'.now = m.now /\ m'.num = m.num + 1 := by
 obtain ⟨t1, t2, t3, t4, t5⟩ := hd.taken hc hf hlen hp
 have ho := hd.ok.ok.tasks p hp
 have hin := hd.ok.ok.mem_inR ho.mem
 have hn0 := hd.ok.ok.num
 have htw : (⟨1, m.num + 1⟩ : Tok).wf := ⟨by unfold zdg; dsimp only; omega, by unfold zdg; dsimp only; omega⟩
 have hjw : (⟨p.2.kd, p.2.s, 0, m.now + c.le⟩ : Lse).job.wf := by
  refine ⟨?_, hin.1⟩
  show zdg p.2.kd
  unfold Tsk.kd zdg
  split <;> omega
 have hl4 := t1.ok.seg.len400 hc
 have hgl := t1.gl hc
 have ht8 := t1.ok.t800 hc
 cases hx : p.2 with
 | mk rl s since tries rest =>
  have hs : p.2.s = s := by rw [hx]
  cases rl with
  | true =>
   have hge : ∃ k : Nat, s.t = k := by
    have h2 := ho.roll (by rw [hx])
    have h3 := zcc ho.mem
    rw [hs] at h2 h3
    refine ⟨s.t.toNat, ?_⟩
    by_cases e : s.t = -1
    ·have := (hd.ok.ok.seg.raw _ h3 e).1
     simp only at this
     omega
    ·have := hin.2.1
     rw [hs] at this
     omega
   obtain ⟨k, hk⟩ := hge
   have t5' : zbq (zdm 1 c m p).TL (⟨p.2.kd, p.2.s, 0, m.now + c.le⟩ : Lse).job = some ⟨true, s, since, tries, rest⟩ := by rw [<- hx]; exact t5
   have hR := (t1.ok.rolled t4 t5' rfl (zcd (zcf c m.L s.ser s.win k))).1
   have hl2 := hR.seg.len400 hc
   refine (commit_Roll h hc _ htw t4 hjw s since tries rest t5' (hs ▸ hin) k hk (Nat.le_trans hl4 (by decide)) (by omega) hR.seg.inr (Nat.le_trans hl2 (by decide)) t1.ok.now (by omega)).mono ?_
   rintro e w' ⟨rfl, TL', hM, hK, hP⟩
   obtain ⟨d1, d2⟩ := hd.roll hc hf hlen hp hx hk hP
   exact ⟨rfl, _, hM, hK, d1, d2, rfl, rfl⟩
  | false =>
   have t5' : zbq (zdm 1 c m p).TL (⟨p.2.kd, p.2.s, 0, m.now + c.le⟩ : Lse).job = some ⟨false, s, since, tries, rest⟩ := by rw [<- hx]; exact t5
   have hR := (t1.ok.reclaimed t4 t5' rfl).1
   have hl2 := hR.seg.len400 hc
   refine (commit_Reclaim h hc _ htw t4 hjw s since tries rest t5' (hs ▸ hin) (Nat.le_trans hl4 (by decide)) (by omega) hR.seg.inr (Nat.le_trans hl2 (by decide)) t1.ok.now (by omega)).mono ?_
   rintro e w' ⟨rfl, TL', hM, hK, hP⟩
   obtain ⟨d1, d2⟩ := hd.reclaim hc hf hlen hp hx hP
   exact ⟨rfl, _, hM, hK, d1, d2, rfl, rfl⟩
end Go.Proofs.YtpbimdkclnekeaaGreat
