import Derived.Test.YtpbimdkclnekeaaGreatGStp4
import Derived.Test.YtpbimdkclnekeaaGreatGStp5
import Derived.Test.YtpbimdkclnekeaaGreatGStp6

namespace Go.Proofs.YtpbimdkclnekeaaGreat
open Go.RowKit Go.Maps Go.Shelf
set_option linter.unusedVariables false
set_option maxRecDepth 20000 in
set_option maxHeartbeats 2000000 in
theorem sends_none {w : World} {B p : Nat} {c : Cf} {ep : Int} {m : MS} {ns : List Nm} {j : Nat} (hs : ShopK w B p c ep m ns j 0) (kd a b v : Int) :
    Calls Tryz.prog 31 #[.pointer (some ⟨p, 0, none⟩), .agg #[.int .i64 kd, .int .i64 a, .int .i64 b, .int .i32 v]] w fun e w' => e = .returned (.bool true) ∧ EndPost w w' B p c ep m ns j := by
  have hsz := hs.size
  obtain ⟨⟨sp, si, sd, sct, snv, skv, suv⟩, rfl, h, hk, ho, hkj, hnj⟩ := hs
  dsimp only at *
  obtain ⟨ka, kc, hka⟩ := row_slice h.krow
  rw [tokL_len] at hka
  dsimp only at hka
  subst hka
  have hb0 : Below w.heap.size w (w.alloc (.cells #[.int .i64 kd, .int .i64 a, .int .i64 b, .int .i32 v] 33)) := (Below.refl _ _).alloc (Nat.le_refl _) _
  have hX := h.later hb0
  obtain ⟨-, -, -, -, -, -, -, -, x11, -⟩ := hX.cells
  dsimp only at x11
  have xl := hX.lt
  dsimp only at xl
  have HX := hide hX
  have HB := hide (Bel.of hb0 hsz)
  have HO := hide ho
  clear h hX hb0 ho
  go_enter Tryz.func31, Tryz.ntmps31
  go_wp2_with fail
  go_ret
  exact ⟨rfl, m, Act1.same m ns, ⟨_, 0, rfl, ud HX, hk, ud HO, hkj, hnj⟩, ud HB⟩
theorem sends_any {w : World} {B p : Nat} {c : Cf} {ep : Int} {m : MS} {ns : List Nm} {j : Nat} (hs : Shop w B p c ep m ns j) (hc : c.ok) (hf : c.fits) (hep : i64B ep) (kd a b v : Int) (ha : -9223372036854775808 ≤ a ∧ a ≤ 9223372036854775807) (hj : j ≤ 4398046511104) :
    Calls Tryz.prog 31 #[.pointer (some ⟨p, 0, none⟩), .agg #[.int .i64 kd, .int .i64 a, .int .i64 b, .int .i32 v]] w fun e w' => e = .returned (.bool true) ∧ EndPost w w' B p c ep m ns j := by
  obtain ⟨s, k, h1, h2, hk, ho, hkj, hnj⟩ := hs
  have hs : ShopK w B p c ep m ns j k := ⟨s, h1, h2, hk, ho, hkj, hnj⟩
  clear h1 h2
  by_cases hk0 : k = 0
  · subst hk0
    exact sends_none hs kd a b v
  · obtain ⟨r, r0, r1, PK⟩ := kpick_at a k ha (by omega)
    have hri : (k : Int) - 1 - r = (((k : Int) - 1 - r).toNat : Int) := by omega
    have hik : ((k : Int) - 1 - r).toNat < k := by omega
    generalize ((k : Int) - 1 - r).toNat = i at *
    cases hg : getM m.QL ⟨ep, (i : Int) + 1⟩ with
    | none =>
      by_cases hkd : kd = 5
      · exact sends_no5 hs hc hf hep kd a b v i hik r hri ⟨r0, r1⟩ PK hj hkd hg
      · exact sends_no4 hs hc hf hep kd a b v i hik r hri ⟨r0, r1⟩ PK hj hkd hg
    | some g =>
      obtain ⟨x, hx, hwf, hin, hkn, htr⟩ := ho.job hc hg
      by_cases hkd : kd = 5
      · exact sends_fail hs hc hf hep kd a b v i hik r hri ⟨r0, r1⟩ PK hj hkd hg hx hwf htr
      · obtain ⟨rl, s9, si9, tr9, re9⟩ := x
        cases rl with
        | true =>
          obtain ⟨k9, hk9⟩ := hkn rfl
          exact sends_roll hs hc hf hep kd a b v i hik r hri ⟨r0, r1⟩ PK hj hkd hg s9 si9 tr9 re9 hx hwf hin k9 hk9
        | false => exact sends_recl hs hc hf hep kd a b v i hik r hri ⟨r0, r1⟩ PK hj hkd hg s9 si9 tr9 re9 hx hwf hin
end Go.Proofs.YtpbimdkclnekeaaGreat

namespace Go.Proofs.YtpbimdkclnekeaaGreat
open Go.RowKit Go.Maps Go.Shelf
set_option linter.unusedVariables false
def StepPost (w w' : World) (B p : Nat) (c : Cf) (ep : Int) (m : MS) (ns : List Nm) (j : Nat) (kd : Int) : Prop := ∃ m1 m' ns', Act1 c ep m ns m1 ns' ∧ Act1 c ep m1 ns' m' ns' ∧ Shop w' B p c ep m' ns' (j + 1) ∧ Bel B w w' ∧ (kd = 1 → (m' = m ∧ ns' = ns ∧ c.qu < usedL m.L + 1 + 2 * c.n) ∨ ∃ x, ns' = ns ++ [x] ∧ usedL m.L < usedL m'.L ∧ usedL m'.L ≤ usedL m.L + 1 + 2 * c.n) ∧ (¬ kd = 1 → ns' = ns)
set_option maxRecDepth 20000 in
set_option maxHeartbeats 4000000 in
theorem sstep_1 {w : World} {B p : Nat} {c : Cf} {ep : Int} {m : MS} {ns : List Nm} {j : Nat} (hs : Shop w B p c ep m ns j) (hc : c.ok) (hf : c.fits) (hep : i64B ep) (kd a b v : Int) (ha : -9223372036854775808 ≤ a ∧ a ≤ 9223372036854775807) (hbb : -9223372036854775808 ≤ b ∧ b ≤ 9223372036854775807) (hv : -2147483648 ≤ v ∧ v ≤ 2147483647) (hj : j < 4398046511104) (hkd : kd = 1) :
    Calls Tryz.prog 11 #[.pointer (some ⟨p, 0, none⟩), .agg #[.int .i64 kd, .int .i64 a, .int .i64 b, .int .i32 v]] w fun e w' => e = .returned (.bool true) ∧ StepPost w w' B p c ep m ns j kd := by
  have hsz := hs.size
  have hb0 : Below w.heap.size w (w.alloc (.cells #[.int .i64 kd, .int .i64 a, .int .i64 b, .int .i32 v] 33)) := (Below.refl _ _).alloc (Nat.le_refl _) _
  have q0 := rlast w (.cells #[.int .i64 kd, .int .i64 a, .int .i64 b, .int .i32 v] 33)
  have hX := hs.later hb0
  have o0 : (w.alloc (.cells #[.int .i64 kd, .int .i64 a, .int .i64 b, .int .i32 v] 33)).cell? ⟨w.heap.size, 0, none⟩ = some (.int .i64 kd) := by rw [rcell q0]; rfl
  have o1 : (w.alloc (.cells #[.int .i64 kd, .int .i64 a, .int .i64 b, .int .i32 v] 33)).cell? ⟨w.heap.size, 1, none⟩ = some (.int .i64 a) := by rw [rcell q0]; rfl
  have o2 : (w.alloc (.cells #[.int .i64 kd, .int .i64 a, .int .i64 b, .int .i32 v] 33)).cell? ⟨w.heap.size, 2, none⟩ = some (.int .i64 b) := by rw [rcell q0]; rfl
  have o3 : (w.alloc (.cells #[.int .i64 kd, .int .i64 a, .int .i64 b, .int .i32 v] 33)).cell? ⟨w.heap.size, 3, none⟩ = some (.int .i32 v) := by rw [rcell q0]; rfl
  have ol := lt_of_heap q0
  have HB0 := hide (Bel.of hb0 hsz)
  have HBW := hide hb0
  have HX := hide hX
  have HS := hide hs
  clear hb0 q0 hX hs
  have k1 : (kd == 1) = true := by subst hkd; rfl
  have k2 : (kd == 2) = false := by subst hkd; rfl
  have k3 : (kd == 3) = false := by subst hkd; rfl
  have k4 : (kd == 4) = false := by subst hkd; rfl
  have k5 : (kd == 5) = false := by subst hkd; rfl
  have k6 : (kd == 6) = false := by subst hkd; rfl
  have HI := hide (sing_any (ud HX) hc hf kd a b v ha hbb hv hj)
  clear hkd
  go_enter Tryz.func11, Tryz.ntmps11
  go_wp2_with (first | (go_at_call 28; refine (ud HI).mono ?_; rintro e V ⟨rfl, hP⟩; have HP := hide hP; clear hP))
  go_ret
  obtain ⟨m', ns', h1, h2, h3, h4⟩ := ud HP
  exact ⟨rfl, m', m', ns', h1, Act1.same m' ns', h2, (ud HB0).trans h3, fun _ => h4, fun e => absurd (by simpa using k1) e⟩
set_option maxRecDepth 20000 in
set_option maxHeartbeats 4000000 in
theorem sstep_2 {w : World} {B p : Nat} {c : Cf} {ep : Int} {m : MS} {ns : List Nm} {j : Nat} (hs : Shop w B p c ep m ns j) (hc : c.ok) (hf : c.fits) (hep : i64B ep) (kd a b v : Int) (ha : -9223372036854775808 ≤ a ∧ a ≤ 9223372036854775807) (hbb : -9223372036854775808 ≤ b ∧ b ≤ 9223372036854775807) (hv : -2147483648 ≤ v ∧ v ≤ 2147483647) (hj : j < 4398046511104) (hkd : kd = 2) :
    Calls Tryz.prog 11 #[.pointer (some ⟨p, 0, none⟩), .agg #[.int .i64 kd, .int .i64 a, .int .i64 b, .int .i32 v]] w fun e w' => e = .returned (.bool true) ∧ StepPost w w' B p c ep m ns j kd := by
  have hsz := hs.size
  have hb0 : Below w.heap.size w (w.alloc (.cells #[.int .i64 kd, .int .i64 a, .int .i64 b, .int .i32 v] 33)) := (Below.refl _ _).alloc (Nat.le_refl _) _
  have q0 := rlast w (.cells #[.int .i64 kd, .int .i64 a, .int .i64 b, .int .i32 v] 33)
  have hX := hs.later hb0
  have o0 : (w.alloc (.cells #[.int .i64 kd, .int .i64 a, .int .i64 b, .int .i32 v] 33)).cell? ⟨w.heap.size, 0, none⟩ = some (.int .i64 kd) := by rw [rcell q0]; rfl
  have o1 : (w.alloc (.cells #[.int .i64 kd, .int .i64 a, .int .i64 b, .int .i32 v] 33)).cell? ⟨w.heap.size, 1, none⟩ = some (.int .i64 a) := by rw [rcell q0]; rfl
  have o2 : (w.alloc (.cells #[.int .i64 kd, .int .i64 a, .int .i64 b, .int .i32 v] 33)).cell? ⟨w.heap.size, 2, none⟩ = some (.int .i64 b) := by rw [rcell q0]; rfl
  have o3 : (w.alloc (.cells #[.int .i64 kd, .int .i64 a, .int .i64 b, .int .i32 v] 33)).cell? ⟨w.heap.size, 3, none⟩ = some (.int .i32 v) := by rw [rcell q0]; rfl
  have ol := lt_of_heap q0
  have HB0 := hide (Bel.of hb0 hsz)
  have HBW := hide hb0
  have HX := hide hX
  have HS := hide hs
  clear hb0 q0 hX hs
  have k1 : (kd == 1) = false := by subst hkd; rfl
  have k2 : (kd == 2) = true := by subst hkd; rfl
  have k3 : (kd == 3) = false := by subst hkd; rfl
  have k4 : (kd == 4) = false := by subst hkd; rfl
  have k5 : (kd == 5) = false := by subst hkd; rfl
  have k6 : (kd == 6) = false := by subst hkd; rfl
  have hne1 : ¬ kd = 1 := by omega
  obtain ⟨r, r0, r1, PK⟩ := kpick_at a 1000 ha (by omega)
  have HPK := fun W => hide (PK W)
  have e1 : IntKind.i64.wrap (1 + r) = 1 + r := by rw [IntKind.wrap_i64]; omega
  clear hkd PK
  by_cases hl : 100000 < m.now + (1 + r)
  · have HT := hide (stick_late (ud HX) (1 + r) ⟨by omega, by omega⟩ hl)
    go_enter Tryz.func11, Tryz.ntmps11
    go_wp2_with (first
      | (go_at_call 29; refine (ud (HPK _)).mono ?_; rintro e W9 ⟨rfl, h9⟩; subst h9)
      | (go_at_call 15; refine (ud HT).mono ?_; rintro e V ⟨rfl, hP⟩; have HP := hide hP; clear hP))
    go_ret
    have hb := (ud HP)
    exact ⟨rfl, m, m, ns, Act1.same m ns, Act1.same m ns, ((ud HX).later hb).mono (Nat.le_succ j), (ud HB0).trans (Bel.of hb (Nat.le_trans hsz (ud HB0).size)), fun e => absurd e hne1, fun _ => rfl⟩
  · have HT := hide (stick_good (ud HX) hc hf (1 + r) ⟨by omega, by omega⟩ (by omega) (by omega))
    go_enter Tryz.func11, Tryz.ntmps11
    go_wp2_with (first
      | (go_at_call 29; refine (ud (HPK _)).mono ?_; rintro e W9 ⟨rfl, h9⟩; subst h9)
      | (go_at_call 15; refine (ud HT).mono ?_; rintro e V ⟨rfl, hP⟩; have HP := hide hP; clear hP))
    go_ret
    obtain ⟨m', h1, h2, h3⟩ := ud HP
    exact ⟨rfl, m', m', ns, h1, Act1.same m' ns, h2.mono (Nat.le_succ j), (ud HB0).trans h3, fun e => absurd e hne1, fun _ => rfl⟩
set_option maxRecDepth 20000 in
set_option maxHeartbeats 4000000 in
theorem sstep_3 {w : World} {B p : Nat} {c : Cf} {ep : Int} {m : MS} {ns : List Nm} {j : Nat} (hs : Shop w B p c ep m ns j) (hc : c.ok) (hf : c.fits) (hep : i64B ep) (kd a b v : Int) (ha : -9223372036854775808 ≤ a ∧ a ≤ 9223372036854775807) (hbb : -9223372036854775808 ≤ b ∧ b ≤ 9223372036854775807) (hv : -2147483648 ≤ v ∧ v ≤ 2147483647) (hj : j < 4398046511104) (hkd : kd = 3) :
    Calls Tryz.prog 11 #[.pointer (some ⟨p, 0, none⟩), .agg #[.int .i64 kd, .int .i64 a, .int .i64 b, .int .i32 v]] w fun e w' => e = .returned (.bool true) ∧ StepPost w w' B p c ep m ns j kd := by
  have hsz := hs.size
  have hb0 : Below w.heap.size w (w.alloc (.cells #[.int .i64 kd, .int .i64 a, .int .i64 b, .int .i32 v] 33)) := (Below.refl _ _).alloc (Nat.le_refl _) _
  have q0 := rlast w (.cells #[.int .i64 kd, .int .i64 a, .int .i64 b, .int .i32 v] 33)
  have hX := hs.later hb0
  have o0 : (w.alloc (.cells #[.int .i64 kd, .int .i64 a, .int .i64 b, .int .i32 v] 33)).cell? ⟨w.heap.size, 0, none⟩ = some (.int .i64 kd) := by rw [rcell q0]; rfl
  have o1 : (w.alloc (.cells #[.int .i64 kd, .int .i64 a, .int .i64 b, .int .i32 v] 33)).cell? ⟨w.heap.size, 1, none⟩ = some (.int .i64 a) := by rw [rcell q0]; rfl
  have o2 : (w.alloc (.cells #[.int .i64 kd, .int .i64 a, .int .i64 b, .int .i32 v] 33)).cell? ⟨w.heap.size, 2, none⟩ = some (.int .i64 b) := by rw [rcell q0]; rfl
  have o3 : (w.alloc (.cells #[.int .i64 kd, .int .i64 a, .int .i64 b, .int .i32 v] 33)).cell? ⟨w.heap.size, 3, none⟩ = some (.int .i32 v) := by rw [rcell q0]; rfl
  have ol := lt_of_heap q0
  have HB0 := hide (Bel.of hb0 hsz)
  have HBW := hide hb0
  have HX := hide hX
  have HS := hide hs
  clear hb0 q0 hX hs
  have k1 : (kd == 1) = false := by subst hkd; rfl
  have k2 : (kd == 2) = false := by subst hkd; rfl
  have k3 : (kd == 3) = true := by subst hkd; rfl
  have k4 : (kd == 4) = false := by subst hkd; rfl
  have k5 : (kd == 5) = false := by subst hkd; rfl
  have k6 : (kd == 6) = false := by subst hkd; rfl
  have hne1 : ¬ kd = 1 := by omega
  have hcs := hc.sl
  obtain ⟨r, r0, r1, PK⟩ := kpick_at a c.s ha (by omega)
  have HPK := fun W => hide (PK W)
  obtain ⟨s9, k9, hp9, hS9, hk9, -, hkj9, -⟩ := ud HX
  obtain ⟨-, x2, -, -, -, -, -, -, x11, -⟩ := hS9.cells
  have xl := hS9.lt
  rw [hp9] at x2 x11 xl
  obtain ⟨ka, kc, hka⟩ := row_slice hS9.krow
  rw [tokL_len] at hka
  rw [hka] at x11
  clear hS9 hka hkd PK
  have HT := hide (stake_any ((ud HX).later (Below.refl _ _).drew) hc hf hep r ⟨r0, r1⟩ hj)
  go_enter Tryz.func11, Tryz.ntmps11
  go_wp2_with fail
  generalize (w.alloc (.cells #[.int .i64 kd, .int .i64 a, .int .i64 b, .int .i32 v] 33)) = X at *
  refine region_tail 9 (by kernel_rfl) (by kernel_rfl) ?_
  simp only [List.take_succ_cons, List.take_zero, List.drop_succ_cons, List.drop_zero]
  repeat still_step
  still_call (ud (HPK _))
  refine wpStill_nil ?_
  go_wp2_with (first | (go_at_call 30; refine (ud HT).mono ?_; rintro e V ⟨rfl, hP⟩; have HP := hide hP; clear hP))
  go_ret
  obtain ⟨m', h1, h2, h3, _⟩ := ud HP
  exact ⟨rfl, m', m', ns, h1, Act1.same m' ns, h2, ((ud HB0).drew).trans h3, fun e => absurd e hne1, fun _ => rfl⟩
set_option maxRecDepth 20000 in
set_option maxHeartbeats 4000000 in
theorem sstep_4 {w : World} {B p : Nat} {c : Cf} {ep : Int} {m : MS} {ns : List Nm} {j : Nat} (hs : Shop w B p c ep m ns j) (hc : c.ok) (hf : c.fits) (hep : i64B ep) (kd a b v : Int) (ha : -9223372036854775808 ≤ a ∧ a ≤ 9223372036854775807) (hbb : -9223372036854775808 ≤ b ∧ b ≤ 9223372036854775807) (hv : -2147483648 ≤ v ∧ v ≤ 2147483647) (hj : j < 4398046511104) (hkd : kd = 4) :
    Calls Tryz.prog 11 #[.pointer (some ⟨p, 0, none⟩), .agg #[.int .i64 kd, .int .i64 a, .int .i64 b, .int .i32 v]] w fun e w' => e = .returned (.bool true) ∧ StepPost w w' B p c ep m ns j kd := by
  have hsz := hs.size
  have hb0 : Below w.heap.size w (w.alloc (.cells #[.int .i64 kd, .int .i64 a, .int .i64 b, .int .i32 v] 33)) := (Below.refl _ _).alloc (Nat.le_refl _) _
  have q0 := rlast w (.cells #[.int .i64 kd, .int .i64 a, .int .i64 b, .int .i32 v] 33)
  have hX := hs.later hb0
  have o0 : (w.alloc (.cells #[.int .i64 kd, .int .i64 a, .int .i64 b, .int .i32 v] 33)).cell? ⟨w.heap.size, 0, none⟩ = some (.int .i64 kd) := by rw [rcell q0]; rfl
  have o1 : (w.alloc (.cells #[.int .i64 kd, .int .i64 a, .int .i64 b, .int .i32 v] 33)).cell? ⟨w.heap.size, 1, none⟩ = some (.int .i64 a) := by rw [rcell q0]; rfl
  have o2 : (w.alloc (.cells #[.int .i64 kd, .int .i64 a, .int .i64 b, .int .i32 v] 33)).cell? ⟨w.heap.size, 2, none⟩ = some (.int .i64 b) := by rw [rcell q0]; rfl
  have o3 : (w.alloc (.cells #[.int .i64 kd, .int .i64 a, .int .i64 b, .int .i32 v] 33)).cell? ⟨w.heap.size, 3, none⟩ = some (.int .i32 v) := by rw [rcell q0]; rfl
  have ol := lt_of_heap q0
  have HB0 := hide (Bel.of hb0 hsz)
  have HBW := hide hb0
  have HX := hide hX
  have HS := hide hs
  clear hb0 q0 hX hs
  have k1 : (kd == 1) = false := by subst hkd; rfl
  have k2 : (kd == 2) = false := by subst hkd; rfl
  have k3 : (kd == 3) = false := by subst hkd; rfl
  have k4 : (kd == 4) = true := by subst hkd; rfl
  have k5 : (kd == 5) = false := by subst hkd; rfl
  have k6 : (kd == 6) = false := by subst hkd; rfl
  have hne1 : ¬ kd = 1 := by omega
  have HE := hide (sends_any (ud HX) hc hf hep kd a b v ha (by omega))
  clear hkd
  go_enter Tryz.func11, Tryz.ntmps11
  go_wp2_with (first | (go_at_call 31; refine (ud HE).mono ?_; rintro e V ⟨rfl, hP⟩; have HP := hide hP; clear hP))
  go_ret
  obtain ⟨m', h1, h2, h3⟩ := ud HP
  exact ⟨rfl, m', m', ns, h1, Act1.same m' ns, h2.mono (Nat.le_succ j), (ud HB0).trans h3, fun e => absurd e hne1, fun _ => rfl⟩
set_option maxRecDepth 20000 in
set_option maxHeartbeats 4000000 in
theorem sstep_5 {w : World} {B p : Nat} {c : Cf} {ep : Int} {m : MS} {ns : List Nm} {j : Nat} (hs : Shop w B p c ep m ns j) (hc : c.ok) (hf : c.fits) (hep : i64B ep) (kd a b v : Int) (ha : -9223372036854775808 ≤ a ∧ a ≤ 9223372036854775807) (hbb : -9223372036854775808 ≤ b ∧ b ≤ 9223372036854775807) (hv : -2147483648 ≤ v ∧ v ≤ 2147483647) (hj : j < 4398046511104) (hkd : kd = 5) :
    Calls Tryz.prog 11 #[.pointer (some ⟨p, 0, none⟩), .agg #[.int .i64 kd, .int .i64 a, .int .i64 b, .int .i32 v]] w fun e w' => e = .returned (.bool true) ∧ StepPost w w' B p c ep m ns j kd := by
  have hsz := hs.size
  have hb0 : Below w.heap.size w (w.alloc (.cells #[.int .i64 kd, .int .i64 a, .int .i64 b, .int .i32 v] 33)) := (Below.refl _ _).alloc (Nat.le_refl _) _
  have q0 := rlast w (.cells #[.int .i64 kd, .int .i64 a, .int .i64 b, .int .i32 v] 33)
  have hX := hs.later hb0
  have o0 : (w.alloc (.cells #[.int .i64 kd, .int .i64 a, .int .i64 b, .int .i32 v] 33)).cell? ⟨w.heap.size, 0, none⟩ = some (.int .i64 kd) := by rw [rcell q0]; rfl
  have o1 : (w.alloc (.cells #[.int .i64 kd, .int .i64 a, .int .i64 b, .int .i32 v] 33)).cell? ⟨w.heap.size, 1, none⟩ = some (.int .i64 a) := by rw [rcell q0]; rfl
  have o2 : (w.alloc (.cells #[.int .i64 kd, .int .i64 a, .int .i64 b, .int .i32 v] 33)).cell? ⟨w.heap.size, 2, none⟩ = some (.int .i64 b) := by rw [rcell q0]; rfl
  have o3 : (w.alloc (.cells #[.int .i64 kd, .int .i64 a, .int .i64 b, .int .i32 v] 33)).cell? ⟨w.heap.size, 3, none⟩ = some (.int .i32 v) := by rw [rcell q0]; rfl
  have ol := lt_of_heap q0
  have HB0 := hide (Bel.of hb0 hsz)
  have HBW := hide hb0
  have HX := hide hX
  have HS := hide hs
  clear hb0 q0 hX hs
  have k1 : (kd == 1) = false := by subst hkd; rfl
  have k2 : (kd == 2) = false := by subst hkd; rfl
  have k3 : (kd == 3) = false := by subst hkd; rfl
  have k4 : (kd == 4) = false := by subst hkd; rfl
  have k5 : (kd == 5) = true := by subst hkd; rfl
  have k6 : (kd == 6) = false := by subst hkd; rfl
  have hne1 : ¬ kd = 1 := by omega
  have HE := hide (sends_any (ud HX) hc hf hep kd a b v ha (by omega))
  clear hkd
  go_enter Tryz.func11, Tryz.ntmps11
  go_wp2_with (first | (go_at_call 31; refine (ud HE).mono ?_; rintro e V ⟨rfl, hP⟩; have HP := hide hP; clear hP))
  go_ret
  obtain ⟨m', h1, h2, h3⟩ := ud HP
  exact ⟨rfl, m', m', ns, h1, Act1.same m' ns, h2.mono (Nat.le_succ j), (ud HB0).trans h3, fun e => absurd e hne1, fun _ => rfl⟩
set_option maxRecDepth 20000 in
set_option maxHeartbeats 4000000 in
theorem sstep_6 {w : World} {B p : Nat} {c : Cf} {ep : Int} {m : MS} {ns : List Nm} {j : Nat} (hs : Shop w B p c ep m ns j) (hc : c.ok) (hf : c.fits) (hep : i64B ep) (kd a b v : Int) (ha : -9223372036854775808 ≤ a ∧ a ≤ 9223372036854775807) (hbb : -9223372036854775808 ≤ b ∧ b ≤ 9223372036854775807) (hv : -2147483648 ≤ v ∧ v ≤ 2147483647) (hj : j < 4398046511104) (hkd : kd = 6) :
    Calls Tryz.prog 11 #[.pointer (some ⟨p, 0, none⟩), .agg #[.int .i64 kd, .int .i64 a, .int .i64 b, .int .i32 v]] w fun e w' => e = .returned (.bool true) ∧ StepPost w w' B p c ep m ns j kd := by
  have hsz := hs.size
  have hb0 : Below w.heap.size w (w.alloc (.cells #[.int .i64 kd, .int .i64 a, .int .i64 b, .int .i32 v] 33)) := (Below.refl _ _).alloc (Nat.le_refl _) _
  have q0 := rlast w (.cells #[.int .i64 kd, .int .i64 a, .int .i64 b, .int .i32 v] 33)
  have hX := hs.later hb0
  have o0 : (w.alloc (.cells #[.int .i64 kd, .int .i64 a, .int .i64 b, .int .i32 v] 33)).cell? ⟨w.heap.size, 0, none⟩ = some (.int .i64 kd) := by rw [rcell q0]; rfl
  have o1 : (w.alloc (.cells #[.int .i64 kd, .int .i64 a, .int .i64 b, .int .i32 v] 33)).cell? ⟨w.heap.size, 1, none⟩ = some (.int .i64 a) := by rw [rcell q0]; rfl
  have o2 : (w.alloc (.cells #[.int .i64 kd, .int .i64 a, .int .i64 b, .int .i32 v] 33)).cell? ⟨w.heap.size, 2, none⟩ = some (.int .i64 b) := by rw [rcell q0]; rfl
  have o3 : (w.alloc (.cells #[.int .i64 kd, .int .i64 a, .int .i64 b, .int .i32 v] 33)).cell? ⟨w.heap.size, 3, none⟩ = some (.int .i32 v) := by rw [rcell q0]; rfl
  have ol := lt_of_heap q0
  have HB0 := hide (Bel.of hb0 hsz)
  have HBW := hide hb0
  have HX := hide hX
  have HS := hide hs
  clear hb0 q0 hX hs
  have k1 : (kd == 1) = false := by subst hkd; rfl
  have k2 : (kd == 2) = false := by subst hkd; rfl
  have k3 : (kd == 3) = false := by subst hkd; rfl
  have k4 : (kd == 4) = false := by subst hkd; rfl
  have k5 : (kd == 5) = false := by subst hkd; rfl
  have k6 : (kd == 6) = true := by subst hkd; rfl
  have hne1 : ¬ kd = 1 := by omega
  have hcs := hc.sl
  obtain ⟨r, r0, r1, PK⟩ := kpick_at a c.s ha (by omega)
  have HPK := fun W => hide (PK W)
  obtain ⟨s9, k9, hp9, hS9, hk9, -, hkj9, -⟩ := ud HX
  obtain ⟨-, x2, -, -, -, -, -, -, x11, -⟩ := hS9.cells
  have xl := hS9.lt
  rw [hp9] at x2 x11 xl
  obtain ⟨ka, kc, hka⟩ := row_slice hS9.krow
  rw [tokL_len] at hka
  rw [hka] at x11
  clear hS9 hka hkd PK
  have HT := hide (stake_any ((ud HX).later (Below.refl _ _).drew) hc hf hep r ⟨r0, r1⟩ hj)
  go_enter Tryz.func11, Tryz.ntmps11
  go_wp2_with fail
  generalize (w.alloc (.cells #[.int .i64 kd, .int .i64 a, .int .i64 b, .int .i32 v] 33)) = X at *
  refine region_tail 9 (by kernel_rfl) (by kernel_rfl) ?_
  simp only [List.take_succ_cons, List.take_zero, List.drop_succ_cons, List.drop_zero]
  repeat still_step
  still_call (ud (HPK _))
  refine wpStill_nil ?_
  go_wp2_with fail
  refine (ud HT).mono ?_
  rintro e V ⟨rfl, hP⟩
  have HP := hide hP
  clear hP
  obtain ⟨m', h1, h2, h3, h4⟩ := ud HP
  have h2x := h2
  obtain ⟨s8, k8, hp8, hS8, hk8, -, hkj8, -⟩ := h2
  have y11 := (hS8.cells).2.2.2.2.2.2.2.2.1
  have yl := hS8.lt
  obtain ⟨kb, kd8, hkb⟩ := row_slice hS8.krow
  rw [tokL_len] at hkb
  rw [hkb] at y11
  rw [hp8] at y11 yl
  clear hS8 hkb
  by_cases hsame : m'.num = m.num
  · have hkk : ((k8 : Int) == (k9 : Int)) = true := by simp; omega
    have hkk2 : (k8 : Int) = k9 := by omega
    clear hsame h4
    go_wp2_with fail
    go_ret
    obtain ⟨m', h1, h2, h3, h4⟩ := ud HP
    exact ⟨rfl, m', m', ns, h1, Act1.same m' ns, h2, ((ud HB0).drew).trans h3, fun e => absurd e hne1, fun _ => rfl⟩
  · have hkk : ((k8 : Int) == (k9 : Int)) = false := by simp; omega
    have hkk2 : ¬ (k8 : Int) = k9 := by omega
    have HE := hide (sends_any h2x hc hf hep 4 0 0 0 (by omega) (by omega))
    clear hsame h4
    go_wp2_with (first | (go_at_call 31; refine (ud HE).mono ?_; rintro e U ⟨rfl, hQ⟩; have HQ := hide hQ; clear hQ))
    go_ret
    obtain ⟨m2, g1, g2, g3⟩ := ud HQ
    exact ⟨rfl, m', m2, ns, h1, g1, g2, ((ud HB0).drew).trans (h3.trans g3), fun e => absurd e hne1, fun _ => rfl⟩
set_option maxRecDepth 20000 in
set_option maxHeartbeats 4000000 in
theorem sstep_o {w : World} {B p : Nat} {c : Cf} {ep : Int} {m : MS} {ns : List Nm} {j : Nat} (hs : Shop w B p c ep m ns j) (hc : c.ok) (hf : c.fits) (hep : i64B ep) (kd a b v : Int) (ha : -9223372036854775808 ≤ a ∧ a ≤ 9223372036854775807) (hbb : -9223372036854775808 ≤ b ∧ b ≤ 9223372036854775807) (hv : -2147483648 ≤ v ∧ v ≤ 2147483647) (hj : j < 4398046511104) (hkd : kd < 1 ∨ 6 < kd) :
    Calls Tryz.prog 11 #[.pointer (some ⟨p, 0, none⟩), .agg #[.int .i64 kd, .int .i64 a, .int .i64 b, .int .i32 v]] w fun e w' => e = .returned (.bool true) ∧ StepPost w w' B p c ep m ns j kd := by
  have hsz := hs.size
  have hb0 : Below w.heap.size w (w.alloc (.cells #[.int .i64 kd, .int .i64 a, .int .i64 b, .int .i32 v] 33)) := (Below.refl _ _).alloc (Nat.le_refl _) _
  have q0 := rlast w (.cells #[.int .i64 kd, .int .i64 a, .int .i64 b, .int .i32 v] 33)
  have hX := hs.later hb0
  have o0 : (w.alloc (.cells #[.int .i64 kd, .int .i64 a, .int .i64 b, .int .i32 v] 33)).cell? ⟨w.heap.size, 0, none⟩ = some (.int .i64 kd) := by rw [rcell q0]; rfl
  have o1 : (w.alloc (.cells #[.int .i64 kd, .int .i64 a, .int .i64 b, .int .i32 v] 33)).cell? ⟨w.heap.size, 1, none⟩ = some (.int .i64 a) := by rw [rcell q0]; rfl
  have o2 : (w.alloc (.cells #[.int .i64 kd, .int .i64 a, .int .i64 b, .int .i32 v] 33)).cell? ⟨w.heap.size, 2, none⟩ = some (.int .i64 b) := by rw [rcell q0]; rfl
  have o3 : (w.alloc (.cells #[.int .i64 kd, .int .i64 a, .int .i64 b, .int .i32 v] 33)).cell? ⟨w.heap.size, 3, none⟩ = some (.int .i32 v) := by rw [rcell q0]; rfl
  have ol := lt_of_heap q0
  have HB0 := hide (Bel.of hb0 hsz)
  have HBW := hide hb0
  have HX := hide hX
  have HS := hide hs
  clear hb0 q0 hX hs
  have k1 : (kd == 1) = false := by simp; omega
  have k2 : (kd == 2) = false := by simp; omega
  have k3 : (kd == 3) = false := by simp; omega
  have k4 : (kd == 4) = false := by simp; omega
  have k5 : (kd == 5) = false := by simp; omega
  have k6 : (kd == 6) = false := by simp; omega
  have hne1 : ¬ kd = 1 := by omega
  clear hkd
  go_enter Tryz.func11, Tryz.ntmps11
  go_wp2_with fail
  go_ret
  exact ⟨rfl, m, m, ns, Act1.same m ns, Act1.same m ns, (ud HX).mono (Nat.le_succ j), ud HB0, fun e => absurd e hne1, fun _ => rfl⟩
theorem sstep_any {w : World} {B p : Nat} {c : Cf} {ep : Int} {m : MS} {ns : List Nm} {j : Nat} (hs : Shop w B p c ep m ns j) (hc : c.ok) (hf : c.fits) (hep : i64B ep) (kd a b v : Int) (ha : -9223372036854775808 ≤ a ∧ a ≤ 9223372036854775807) (hbb : -9223372036854775808 ≤ b ∧ b ≤ 9223372036854775807) (hv : -2147483648 ≤ v ∧ v ≤ 2147483647) (hj : j < 4398046511104) :
    Calls Tryz.prog 11 #[.pointer (some ⟨p, 0, none⟩), .agg #[.int .i64 kd, .int .i64 a, .int .i64 b, .int .i32 v]] w fun e w' => e = .returned (.bool true) ∧ StepPost w w' B p c ep m ns j kd := by
  by_cases h1 : kd = 1
  · exact sstep_1 hs hc hf hep kd a b v ha hbb hv hj h1
  by_cases h2 : kd = 2
  · exact sstep_2 hs hc hf hep kd a b v ha hbb hv hj h2
  by_cases h3 : kd = 3
  · exact sstep_3 hs hc hf hep kd a b v ha hbb hv hj h3
  by_cases h4 : kd = 4
  · exact sstep_4 hs hc hf hep kd a b v ha hbb hv hj h4
  by_cases h5 : kd = 5
  · exact sstep_5 hs hc hf hep kd a b v ha hbb hv hj h5
  by_cases h6 : kd = 6
  · exact sstep_6 hs hc hf hep kd a b v ha hbb hv hj h6
  exact sstep_o hs hc hf hep kd a b v ha hbb hv hj (by omega)
end Go.Proofs.YtpbimdkclnekeaaGreat
