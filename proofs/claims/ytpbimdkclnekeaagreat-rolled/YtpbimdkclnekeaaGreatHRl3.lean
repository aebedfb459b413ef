import Derived.Test.YtpbimdkclnekeaaGreatHRl1
import Derived.Test.YtpbimdkclnekeaaGreatHRl2

namespace Go.Proofs.YtpbimdkclnekeaaGreat
open Go.RowKit Go.Maps Go.Shelf
set_option linter.unusedVariables false
theorem end_bound {tm wd : Int} (h0 : 0 ≤ tm) (h1 : tm ≤ 100000) (hw : 1 ≤ wd ∧ wd ≤ 1000) : 0 ≤ tm / wd ∧ tm / wd ≤ 100000 ∧ 0 ≤ (tm / wd + 1) * wd ∧ (tm / wd + 1) * wd ≤ 101000 := by
  have a := Int.ediv_nonneg h0 (show 0 ≤ wd by omega)
  have b : tm / wd ≤ tm := Int.ediv_le_self _ h0
  have c := Int.ediv_mul_le tm (show wd ≠ 0 by omega)
  have d : (tm / wd + 1) * wd = tm / wd * wd + wd := by rw [Int.add_mul, Int.one_mul]
  have e := Int.mul_nonneg a (show 0 ≤ wd by omega)
  omega
set_option maxRecDepth 20000 in
set_option maxHeartbeats 8000000 in
theorem stold_any {w : World} {B : Nat} {s : Shp} {c : Cf} {ep : Int} {m : MS} {ns : List Nm} {ks : List Tok} {us : List Int} (h : ShopAt w B s c ep m m.now ns ks us) (hc : c.ok) (hf : c.fits) (hm : MOk c ep m) (hi : RInv c m ns) (hlen : ns.length < 4398046511104) (x : Nm) (hx : x ∈ ns) (t : Int) (ht : -1 ≤ t ∧ t < c.n) (all : Bool)
    (hall : all = true → (mquery c m.now m.Gl m.L t x.ser (x.tm / c.width t)).2 ≠ 11 ∧ ((mquery c m.now m.Gl m.L t x.ser (x.tm / c.width t)).2 = 0 → (x.tm / c.width t + 1) * c.width t + c.keep t ≤ m.now → waitsP c m t x)) :
    Calls Tryz.prog 32 #[.pointer (some ⟨s.p, 0, none⟩), .int .i64 t, .agg #[.int .i64 x.ser, .int .i64 x.tm, .int .i32 x.val], .bool all] w fun e w' => e = .returned (.bool true) ∧ Below w.heap.size w w' := by
  obtain ⟨x1, x2, x3, x4, x5, x6⟩ := hi.tm x hx
  have hnow := hm.now
  have hwd := hc.width ht.1 ht.2
  obtain ⟨w1, w2, w3, w4⟩ := end_bound (tm := x.tm) (wd := c.width t) x1 (by omega) hwd
  have hT := hi.told hc hf hm hx ht.1 ht.2
  have hns : ∀ y ∈ ns, 0 ≤ y.tm ∧ y.tm ≤ 100000 ∧ -2147483648 ≤ y.val ∧ y.val ≤ 2147483647 := fun y hy => by have := hi.tm y hy; omega
  have hb0 : Below w.heap.size w (w.alloc (.cells #[.int .i64 x.ser, .int .i64 x.tm, .int .i32 x.val] 78)) := (Below.refl _ _).alloc (Nat.le_refl _) _
  have q0 := rlast w (.cells #[.int .i64 x.ser, .int .i64 x.tm, .int .i32 x.val] 78)
  have hS := h.later hb0
  have HS := hide hS
  have HB0 := hide hb0
  have Q0 := hide q0
  have hqz := lt_of_heap q0
  have n0 : (w.alloc (.cells #[.int .i64 x.ser, .int .i64 x.tm, .int .i32 x.val] 78)).cell? ⟨w.heap.size, 0, none⟩ = some (.int .i64 x.ser) := by rw [rcell q0]; rfl
  have n1 : (w.alloc (.cells #[.int .i64 x.ser, .int .i64 x.tm, .int .i32 x.val] 78)).cell? ⟨w.heap.size, 1, none⟩ = some (.int .i64 x.tm) := by rw [rcell q0]; rfl
  have HWD := fun W (e : Below (w.alloc (.cells #[.int .i64 x.ser, .int .i64 x.tm, .int .i32 x.val] 78)).heap.size (w.alloc (.cells #[.int .i64 x.ser, .int .i64 x.tm, .int .i32 x.val] 78)) W) => hide (swidth_any (hS.later e) hc t ht.1 ht.2)
  have hquo : IntKind.i64.wrap (x.tm.tdiv (c.width t)) = x.tm / c.width t := by rw [Int.tdiv_eq_ediv_of_nonneg x1, IntKind.wrap_i64]; omega
  have hW0 : ¬ c.width t = 0 := by omega
  have HT := hide hT
  have HALL := hide hall
  have HNS := hide hns
  have HI := hide hi
  clear h hT hall hns hb0 q0 hS hi hm hf
  go_enter Tryz.func32, Tryz.ntmps32
  go_wp2_with fail
  generalize (w.alloc (.cells #[.int .i64 x.ser, .int .i64 x.tm, .int .i32 x.val] 78)) = X at *
  refine rstill_d (by kernel_rfl) (by kernel_rfl) ?_
  iterate 4 ((with_reducible refine wpStill_step (fun K hK => ?_)); go_simp; (with_reducible refine hK _ ?_); clear hK K)
  still_call (ud (HWD _ (Below.refl _ _).drew))
  iterate 2 ((with_reducible refine wpStill_step (fun K hK => ?_)); go_simp; (with_reducible refine hK _ ?_); clear hK K)
  refine wpStill_nil ?_
  generalize hwn : x.tm / c.width t = wn at *
  have HWN := hide hwn
  clear hwn hquo
  obtain ⟨en, hen⟩ : ∃ en, (wn + 1) * c.width t = en := ⟨_, rfl⟩
  rw [hen] at w3 w4 HALL
  have hmul : wrap64 ((wn + 1) * c.width t) = en := by rw [hen]; unfold wrap64; omega
  have HEN := hide hen
  have HMUL := hide hmul
  clear hen hmul
  have hSX := ud HS
  obtain ⟨c0', -, -, c4', -, -, c9', -, -, -⟩ := hSX.cells
  have hpl := hSX.lt
  go_wp2_with fail
  refine (ud (HWD _ (Below.refl _ _).drew)).mono ?_
  rintro e V0 ⟨rfl, rfl⟩
  generalize hQe : mquery c m.now m.Gl m.L t x.ser wn = Q at *
  have HSD := hide (hSX.later (Below.refl _ _).drew)
  have HUX : Hid (Below X.heap.size X X.drew) := (Below.refl _ _).drew
  have HQL := hide hqz
  have hzd : X.drew.heap.size = X.heap.size := rfl
  clear hSX hwd hzd
  have c0 : X.drew.cell? ⟨s.p, 0, none⟩ = some (.pointer (some ⟨s.i.x, 0, none⟩)) := c0'
  have c4 : X.drew.cell? ⟨s.p, 4, none⟩ = some (.int .i64 c.la) := c4'
  have c9 : X.drew.cell? ⟨s.p, 9, none⟩ = some (.int .i64 m.now) := c9'
  have n0' : X.drew.cell? ⟨w.heap.size, 0, none⟩ = some (.int .i64 x.ser) := n0
  have hpl' : s.p < X.drew.heap.size := hpl
  have hqz' : w.heap.size < X.drew.heap.size := hqz
  have HBX : Hid (Below w.heap.size w X.drew) := (ud HB0).drew
  clear c0' c4' c9' n0 n1 hpl hqz HS HWD
  generalize X.drew = U at *
  go_wp2_with fail
  have hmul := ud HMUL
  simp only [hmul]
  clear hmul HMUL
  have hb1 : Below U.heap.size U (U.alloc (.cells #[.int .i64 0, .int .i64 0, .int .i32 0, .int .i32 0] 114)).drew := ((Below.refl _ _).alloc (Nat.le_refl _) _).drew
  have hz1 : U.heap.size < (U.alloc (.cells #[.int .i64 0, .int .i64 0, .int .i32 0, .int .i32 0] 114)).drew.heap.size := by show U.heap.size < (U.alloc (.cells #[.int .i64 0, .int .i64 0, .int .i32 0, .int .i32 0] 114)).heap.size; rw [rsize]; omega
  have hc1 : (U.alloc (.cells #[.int .i64 0, .int .i64 0, .int .i32 0, .int .i32 0] 114)).drew.heap[U.heap.size]? = some (.cells #[.int .i64 0, .int .i64 0, .int .i32 0, .int .i32 0] 114 (0, 0)) := rlast U _
  have HQ1 := hide (mquery_any ((ud HSD).later hb1).mill hc hnow t x.ser wn ht ⟨x3, x4⟩ ⟨w1, w2⟩)
  have HQ0 := hide (mquery_any ((ud HSD).later (Below.refl _ _).drew).mill hc hnow t x.ser wn ht ⟨x3, x4⟩ ⟨w1, w2⟩)
  rw [hQe] at HQ1 HQ0
  have HQE := hide hQe
  have HB1 := hide hb1
  have HC1 := hide hc1
  have hpz : ¬ s.p = U.heap.size := by omega
  have hqzz : ¬ w.heap.size = U.heap.size := by omega
  clear hb1 hc1 hQe
  obtain ⟨⟨Q1, Q2, Q3, Q4⟩, QE⟩ := Q
  dsimp only at HQ1 HQ0 HALL
  rename_i K1 hK1
  refine (fun cont : ∀ (z : Nat) (Y : World), U.heap.size ≤ z → Y.heap[z]? = some (clObj ⟨Q1, Q2, Q3, Q4⟩) → Below U.heap.size U Y → K1 ((?aa : Nat → Act) z) Y => ?main) ?hc
  case main =>
    have CONT := hide cont
    clear cont
    go_region_held3 (fun w' => w'.cell? ⟨s.p, 0, none⟩ = some (.pointer (some ⟨s.i.x, 0, none⟩)) ∧ w'.cell? ⟨w.heap.size, 0, none⟩ = some (.int .i64 x.ser)) (first | go_keep | exact ⟨(set4_far (by assumption)).trans (by assumption), (set4_far (by assumption)).trans (by assumption)⟩) (first
      | (go_at_call 60; (with_reducible refine (ud HQ1).mono ?_); rintro e V ⟨rfl, hv1⟩; have hbv : Below U.heap.size U V := (ud HB1).trans (hv1.mono (ud HB1).size); have hzv := (hv1.block U.heap.size hz1).trans (ud HC1); have z0 : V.cell? ⟨U.heap.size, 0, none⟩ = some (.int .i64 0) := (by rw [rcell hzv]; rfl); have z1 : V.cell? ⟨U.heap.size, 1, none⟩ = some (.int .i64 0) := (by rw [rcell hzv]; rfl); have z2 : V.cell? ⟨U.heap.size, 2, none⟩ = some (.int .i32 0) := (by rw [rcell hzv]; rfl); have z3 : V.cell? ⟨U.heap.size, 3, none⟩ = some (.int .i32 0) := (by rw [rcell hzv]; rfl); have zf := fun j => rfree hzv j; have v0 := (hbv.cell (p := ⟨s.p, 0, none⟩) hpl').trans c0; have v1 := (hbv.cell (p := ⟨w.heap.size, 0, none⟩) hqz').trans n0'; have vl := Nat.lt_of_lt_of_le hpl' hbv.size; have vq := Nat.lt_of_lt_of_le hqz' hbv.size; have HBV := hide hbv; have HZV := hide hzv; clear hbv hv1 hzv)
      | (go_at_call 60; (with_reducible refine (ud HQ0).mono ?_); rintro e V ⟨rfl, hv1⟩; have hbv : Below U.heap.size U V := bel_dd hv1; have v0 := (hbv.cell (p := ⟨s.p, 0, none⟩) hpl').trans c0; have v1 := (hbv.cell (p := ⟨w.heap.size, 0, none⟩) hqz').trans n0'; have vl := Nat.lt_of_lt_of_le hpl' hbv.size; have vq := Nat.lt_of_lt_of_le hqz' hbv.size; have hpv : ¬ s.p = V.heap.size := (by omega); have hqv : ¬ w.heap.size = V.heap.size := (by omega); have HBV := hide hbv; clear hbv hv1))
    all_goals (first
      | (have hP := (ud HBV).alloc (ud HBV).size (.cells #[.int .i64 Q1, .int .i64 Q2, .int .i32 Q3, .int .i32 Q4] 114); have hR := rlast V (.cells #[.int .i64 Q1, .int .i64 Q2, .int .i32 Q3, .int .i32 Q4] 114); have hL := (ud HBV).size; generalize (V.alloc (.cells #[.int .i64 Q1, .int .i64 Q2, .int .i32 Q3, .int .i32 Q4] 114)) = Y at hP hR ⊢; generalize V.heap.size = z at hR hL ⊢; exact ud CONT z Y hL hR hP)
      | (have hP := below4g (ud HBV) (Nat.le_refl U.heap.size) (.int .i64 Q1) (.int .i64 Q2) (.int .i32 Q3) (.int .i32 Q4); have hR := set4c (ud HZV) (.int .i64 Q1) (.int .i64 Q2) (.int .i32 Q3) (.int .i32 Q4); have hL := Nat.le_refl U.heap.size; generalize ((((V.setCell ⟨U.heap.size, 0, none⟩ (.int .i64 Q1)).setCell ⟨U.heap.size, 1, none⟩ (.int .i64 Q2)).setCell ⟨U.heap.size, 2, none⟩ (.int .i32 Q3)).setCell ⟨U.heap.size, 3, none⟩ (.int .i32 Q4)) = Y at hP hR ⊢; have CL := hide (ud CONT); generalize hzz : U.heap.size = z at hR hL ⊢; exact ud CONT z Y (by omega) hR hP))
  case hc =>
    intro z Y hLz hR hbY
    refine hK1 _ _ ?_
    clear HQ0 HQ1 HB1 HC1 hz1
    have hSY := (ud HSD).later hbY
    have y4 := (hbY.cell (p := ⟨s.p, 4, none⟩) hpl').trans c4
    have y9 := (hbY.cell (p := ⟨s.p, 9, none⟩) hpl').trans c9
    have ypl := Nat.lt_of_lt_of_le hpl' hbY.size
    have hkp : 0 ≤ c.keep t ∧ c.keep t ≤ 1000 := by
      unfold Cf.keep
      split
      · exact hc.ke
      · exact hc.K _ (by omega)
    obtain ⟨k1, k2⟩ := hkp
    obtain ⟨nw1, nw2⟩ := hnow
    obtain ⟨la1, la2⟩ := hc.la
    have HKP := hide (skeep_any (hSY.later (Below.refl _ _).drew.drew) hc t ht.1 ht.2)
    have HSY := hide hSY
    have HR := hide hR
    have HBY := hide hbY
    have y0 := (hbY.cell (p := ⟨w.heap.size, 0, none⟩) hqz').trans n0'
    have yql := Nat.lt_of_lt_of_le hqz' hbY.size
    have Y0 := hide y0
    clear hSY hR hbY c0 c4 c9 n0' hpl' hqz' hpz hqzz y0
    go_wp2_with fail
    go_still (by kernel_rfl)
    go_wp2_with fail
    refine rstill_d (by kernel_rfl) (by kernel_rfl) ?_
    iterate 3 ((with_reducible refine wpStill_step (fun K hK => ?_)); go_simp; (with_reducible refine hK _ ?_); clear hK K)
    still_call (ud HKP)
    iterate 7 ((with_reducible refine wpStill_step (fun K hK => ?_)); go_simp; (with_reducible refine hK _ ?_); clear hK K)
    refine wpStill_nil ?_
    clear HKP y4 y9
    have e1 : IntKind.i64.wrap (m.now - c.la) = m.now - c.la := by rw [IntKind.wrap_i64]; omega
    have e2 : IntKind.i64.wrap (en + c.keep t) = en + c.keep t := by rw [IntKind.wrap_i64]; omega
    simp only [e1, e2]
    clear e1 e2
    have hcl : c.clo m.now (segOf c t x) ↔ en ≤ m.now - c.la := by
      unfold Cf.clo segOf
      dsimp only
      rw [ud HWN, ud HEN]
    have y0 : Y.drew.drew.cell? ⟨w.heap.size, 0, none⟩ = some (.int .i64 x.ser) := ud Y0
    have hql : w.heap.size < Y.drew.drew.heap.size := yql
    have hspl : s.p < Y.drew.drew.heap.size := ypl
    have HR2 : Hid (Y.drew.drew.heap[z]? = some (clObj ⟨Q1, Q2, Q3, Q4⟩)) := ud HR
    have HBY2 : Hid (Below w.heap.size w Y.drew.drew) := (ud HBX).trans (((ud HBY).drew.drew).mono (ud HBX).size)
    have HQ2 : Hid (Y.drew.drew.heap[w.heap.size]? = some (.cells #[.int .i64 x.ser, .int .i64 x.tm, .int .i32 x.val] 78 (0, 0))) := ((ud HBY).drew.drew.block _ (Nat.lt_of_lt_of_le (ud HQL) (ud HUX).size)).trans ((ud HUX).block _ (ud HQL) |>.trans (ud Q0))
    have HSY2 := hide ((ud HSY).later (Below.refl _ _).drew.drew)
    clear Y0 yql ypl HR HBY HSY HSD HBX
    have hT := ud HT
    clear HT
    generalize hov : en + c.keep t = ek at *
    rcases hT with ⟨h1, h2⟩ | ⟨h1, h2, h3⟩ | ⟨h1, h2, h3⟩ | ⟨h1, h2, h3, h4⟩
    · injection h2 with h2a h2b
      subst h2b
      have hcb : decide (en ≤ m.now - c.la) = false := by simpa using fun e => h1 (hcl.2 e)
      simp only [hcb]
      clear hcl h1 h2a hov HALL
      go_wp2_with fail
      go_ret
      exact ⟨rfl, ud HBY2⟩
    · subst h2
      have hcb : decide (en ≤ m.now - c.la) = true := by simpa using hcl.1 h1
      simp only [hcb]
      clear hcl h1
      have HC := hide (scell_any (ud HSY2) hc t ht x.ser wn (ud HNS) hlen)
      have HWT : Hid (all = true → ek ≤ m.now → waitsP c m t x) := fun h => (ud HALL h).2 rfl
      clear HALL
      have H3 : Hid (IsC (fun y => y.ser = x.ser ∧ y.tm / c.width t = wn) ns ⟨Q1, Q2, Q3, Q4⟩) := h3.congr (fun y _ => by
        unfold segOf
        simp only [Sg.mk.injEq, true_and, ud HWN])
      clear h3
      go_wp2_with fail
      refine (ud HC).mono ?_
      rintro e V ⟨d, hd, rfl, hbv⟩
      have hdq : d = ⟨Q1, Q2, Q3, Q4⟩ := hd.one (ud H3)
      subst hdq
      dsimp only
      clear hd HC H3
      have hbA : Below Y.drew.drew.heap.size Y.drew.drew (V.alloc (.cells #[.int .i64 Q1, .int .i64 Q2, .int .i32 Q3, .int .i32 Q4] 114)) := hbv.alloc hbv.size _
      have hz2 := (hbA.block z (lt_of_heap (ud HR2))).trans (ud HR2)
      have hd2 := rlast V (.cells #[.int .i64 Q1, .int .i64 Q2, .int .i32 Q3, .int .i32 Q4] 114)
      have hn2 := (hbA.block w.heap.size hql).trans (ud HQ2)
      have a0 : (V.alloc (.cells #[.int .i64 Q1, .int .i64 Q2, .int .i32 Q3, .int .i32 Q4] 114)).cell? ⟨z, 0, none⟩ = some (.int .i64 Q1) := by rw [rcell hz2]; rfl
      have a1 : (V.alloc (.cells #[.int .i64 Q1, .int .i64 Q2, .int .i32 Q3, .int .i32 Q4] 114)).cell? ⟨z, 1, none⟩ = some (.int .i64 Q2) := by rw [rcell hz2]; rfl
      have a2 : (V.alloc (.cells #[.int .i64 Q1, .int .i64 Q2, .int .i32 Q3, .int .i32 Q4] 114)).cell? ⟨z, 2, none⟩ = some (.int .i32 Q3) := by rw [rcell hz2]; rfl
      have a3 : (V.alloc (.cells #[.int .i64 Q1, .int .i64 Q2, .int .i32 Q3, .int .i32 Q4] 114)).cell? ⟨z, 3, none⟩ = some (.int .i32 Q4) := by rw [rcell hz2]; rfl
      have b0 : (V.alloc (.cells #[.int .i64 Q1, .int .i64 Q2, .int .i32 Q3, .int .i32 Q4] 114)).cell? ⟨V.heap.size, 0, none⟩ = some (.int .i64 Q1) := by rw [rcell hd2]; rfl
      have b1 : (V.alloc (.cells #[.int .i64 Q1, .int .i64 Q2, .int .i32 Q3, .int .i32 Q4] 114)).cell? ⟨V.heap.size, 1, none⟩ = some (.int .i64 Q2) := by rw [rcell hd2]; rfl
      have b2 : (V.alloc (.cells #[.int .i64 Q1, .int .i64 Q2, .int .i32 Q3, .int .i32 Q4] 114)).cell? ⟨V.heap.size, 2, none⟩ = some (.int .i32 Q3) := by rw [rcell hd2]; rfl
      have b3 : (V.alloc (.cells #[.int .i64 Q1, .int .i64 Q2, .int .i32 Q3, .int .i32 Q4] 114)).cell? ⟨V.heap.size, 3, none⟩ = some (.int .i32 Q4) := by rw [rcell hd2]; rfl
      have n0 : (V.alloc (.cells #[.int .i64 Q1, .int .i64 Q2, .int .i32 Q3, .int .i32 Q4] 114)).cell? ⟨w.heap.size, 0, none⟩ = some (.int .i64 x.ser) := by rw [rcell hn2]; rfl
      have n1 : (V.alloc (.cells #[.int .i64 Q1, .int .i64 Q2, .int .i32 Q3, .int .i32 Q4] 114)).cell? ⟨w.heap.size, 1, none⟩ = some (.int .i64 x.tm) := by rw [rcell hn2]; rfl
      have n2 : (V.alloc (.cells #[.int .i64 Q1, .int .i64 Q2, .int .i32 Q3, .int .i32 Q4] 114)).cell? ⟨w.heap.size, 2, none⟩ = some (.int .i32 x.val) := by rw [rcell hn2]; rfl
      have lz := lt_of_heap hz2
      have ld := lt_of_heap hd2
      have ln := lt_of_heap hn2
      have HSV := hide ((ud HSY2).later hbA)
      have HBV := hide ((ud HBY2).trans (hbA.mono (ud HBY2).size))
      clear hbA hz2 hd2 hn2 hbv y0 HSY2 HBY2 HQ2 HR2
      cases all with
      | false =>
        go_wp2_with fail
        go_ret
        exact ⟨rfl, ud HBV⟩
      | true =>
        by_cases hoe : ek ≤ m.now
        · have hob : decide (ek ≤ m.now) = true := by simpa using hoe
          have hwt : waitsP c m t x := by
            have h := ud HWT
            first | exact h rfl hoe | exact h hoe
          have HW := hide (swaits_any (ud HSV) hc ⟨nw1, nw2⟩ t ht x ⟨x1, by omega⟩ ⟨x3, x4⟩)
          go_wp2_with fail
          refine (ud HW).mono ?_
          rintro e V2 ⟨⟨bb, rfl, hbb⟩, hbv⟩
          have hbf : bb = true := hbb.2 hwt
          subst hbf
          have HBV2 := hide ((ud HBV).trans (hbv.mono (ud HBV).size))
          clear hbv HW hbb
          go_wp2_with fail
          go_ret
          exact ⟨rfl, ud HBV2⟩
        · have hob : decide (ek ≤ m.now) = false := by simpa using hoe
          clear hoe
          go_wp2_with fail
          go_ret
          exact ⟨rfl, ud HBV⟩
    · injection h2 with h2a h2b
      subst h2b
      have hcb : decide (en ≤ m.now - c.la) = true := by simpa using hcl.1 h1
      have hal : all = false := by
        cases all with
        | false => rfl
        | true => exact absurd rfl (ud HALL rfl).1
      subst hal
      simp only [hcb]
      clear hcl h1 h2a hov HALL
      go_wp2_with fail
      go_ret
      exact ⟨rfl, ud HBY2⟩
    · injection h2 with h2a h2b
      subst h2b
      have hcb : decide (en ≤ m.now - c.la) = true := by simpa using hcl.1 h1
      have hob : decide (ek ≤ m.now) = true := by
        have : ek ≤ m.now := by
          rw [← hov, ← ud HEN, ← ud HWN]; exact h3
        simpa using this
      have hnw : ¬ waitsP c m t x := fun ⟨k, hk, hF, q0, q12⟩ => by
        have := h4 k hk hF
        rw [width_nat] at this
        exact this.elim q0 q12
      simp only [hcb, hob]
      clear hcl h1 h2a hov HALL h3 h4
      have HW := hide (swaits_any (ud HSY2) hc ⟨nw1, nw2⟩ t ht x ⟨x1, by omega⟩ ⟨x3, x4⟩)
      have y1 : Y.drew.drew.cell? ⟨w.heap.size, 1, none⟩ = some (.int .i64 x.tm) := by rw [rcell (ud HQ2)]; rfl
      have y2 : Y.drew.drew.cell? ⟨w.heap.size, 2, none⟩ = some (.int .i32 x.val) := by rw [rcell (ud HQ2)]; rfl
      go_wp2_with fail
      refine (ud HW).mono ?_
      rintro e V ⟨⟨bb, rfl, hbb⟩, hbv⟩
      have hbf : bb = false := by
        cases bb with
        | false => rfl
        | true => exact absurd (hbb.1 rfl) hnw
      subst hbf
      have HBV := hide ((ud HBY2).trans (hbv.mono (ud HBY2).size))
      clear hbv HW hbb
      go_wp2_with fail
      go_ret
      exact ⟨rfl, ud HBV⟩
end Go.Proofs.YtpbimdkclnekeaaGreat

namespace Go.Proofs.YtpbimdkclnekeaaGreat
open Go.RowKit Go.Maps Go.Shelf
set_option linter.unusedVariables false
def DoneAll (c : Cf) (m : MS) (ns : List Nm) : Prop := ∀ x ∈ ns, ∀ t : Int, -1 ≤ t → t < c.n → (mquery c m.now m.Gl m.L t x.ser (x.tm / c.width t)).2 ≠ 11 ∧ ((mquery c m.now m.Gl m.L t x.ser (x.tm / c.width t)).2 = 0 → (x.tm / c.width t + 1) * c.width t + c.keep t ≤ m.now → waitsP c m t x)
set_option maxRecDepth 20000 in
set_option maxHeartbeats 4000000 in
theorem sright_any {w : World} {B : Nat} {s : Shp} {c : Cf} {ep : Int} {m : MS} {ns : List Nm} {ks : List Tok} {us : List Int} (h : ShopAt w B s c ep m m.now ns ks us) (hc : c.ok) (hf : c.fits) (hm : MOk c ep m) (hi : RInv c m ns) (hlen : ns.length < 4398046511104) (all : Bool) (hall : all = true → DoneAll c m ns) :
    Calls Tryz.prog 12 #[.pointer (some ⟨s.p, 0, none⟩), .bool all] w fun e w' => e = .returned (.bool true) ∧ Below w.heap.size w w' := by
  have H := hide h
  have HTD := fun (W : World) (hW : Below w.heap.size w W) (x : Nm) (hx : x ∈ ns) (t : Int) (ht : -1 ≤ t ∧ t < c.n) => hide (stold_any (h.later hW) hc hf hm hi hlen x hx t ht all (fun e => hall e x hx t ht.1 ht.2))
  obtain ⟨an, cn, hnv⟩ := row_slice h.nrow
  obtain ⟨b, off, cap, hct, hbl, hcl⟩ := h.tiers hc
  have hn4 := hc.n4
  clear h hm hi hall hf hcl
  go_enter Tryz.func12, Tryz.ntmps12
  go_wp2_with fail
  go_loopw [5, 6, 7] (fun y _ _ wr => ∃ k : Nat, k ≤ ns.length ∧ y = .int .i64 k ∧ Below w.heap.size w wr) (fun y _ _ _ => ns.length - (intOf y).toNat)
  case atStart => exact ⟨0, Nat.zero_le _, rfl, Below.refl _ _⟩
  case round =>
    obtain ⟨k, hk, rfl, hb⟩ := hrel
    have hS := (ud H).later hb
    obtain ⟨-, -, -, -, -, c8, -, c10, -, -⟩ := hS.cells
    rw [hnv] at c10
    rw [hct] at c8
    have hpl := hS.lt
    have hli : (ns.length : Int) < 4398046511104 := by omega
    have hni : (c.n : Int) ≤ 4 := by omega
    have HS := hide hS
    have HB := hide hb
    by_cases hlt : k < ns.length
    · obtain ⟨x, hx⟩ := rget_of_lt hlt
      have hxm := List.mem_of_getElem? hx
      have hkn : (k : Int) < ns.length := by omega
      clear hS hb
      go_wp2_with fail
      go_loopw [6, 7] (fun y _ wr => ∃ j : Nat, j ≤ c.n + 1 ∧ y = .int .i64 ((j : Int) - 1) ∧ Below w.heap.size w wr) (fun y _ _ => c.n + 1 - (intOf y + 1).toNat)
      case atStart => exact ⟨0, Nat.zero_le _, rfl, ud HB⟩
      case round =>
        obtain ⟨j, hj, rfl, hb⟩ := hrel
        have hS := (ud H).later hb
        obtain ⟨-, -, -, -, -, d8, -, d10, -, -⟩ := hS.cells
        rw [hnv] at d10
        rw [hct] at d8
        have hpl2 := hS.lt
        have HB2 := hide hb
        by_cases hjl : j < c.n + 1
        · have hjt : (j : Int) - 1 < c.n := by omega
          have hnr := hS.nrow
          rw [hnv] at hnr
          obtain ⟨g, cap', hv, _, hgz, y0, y1, y2⟩ := nm_at hnr hx
          have hv' : an = some ⟨g, 0, none⟩ := by injection hv
          subst hv'
          have HT := HTD _ hb x hxm ((j : Int) - 1) ⟨by omega, hjt⟩
          clear hS hb hnr hv
          go_wp2_with fail
          refine (ud HT).mono ?_
          rintro e V ⟨rfl, hbv⟩
          have HBV := hide ((ud HB2).trans (hbv.mono (ud HB2).size))
          clear hbv HT
          go_wp2_with fail
          go_roundw
          case rel => exact ⟨j + 1, by omega, by go_num, ud HBV⟩
          case measure => simp [intOf]; omega
        · have hjn : (j : Int) - 1 = c.n := by omega
          have hnl : decide ((j : Int) - 1 < c.n) = false := by simp; omega
          clear hS hb
          go_wp2_with fail
          go_roundw
          case rel => exact ⟨k + 1, by omega, by go_num, ud HB2⟩
          case measure => simp [intOf]; omega
    · have hkk : k = ns.length := by omega
      subst hkk
      have hnl : decide ((ns.length : Int) < ns.length) = false := by simp
      clear hS hb
      go_wp2_with fail
      go_ret
      exact ⟨rfl, ud HB⟩
end Go.Proofs.YtpbimdkclnekeaaGreat
