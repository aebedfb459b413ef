import Derived.Test.YtpbimdkclnekeaaGreatRows
import Derived.Test.YtpbimdkclnekeaaGreatQConf0
import Derived.WalkKit
import Derived.WalkSpells
import Derived.WalkLawsBesides
import Derived.Deep.QuietTactic
import Derived.BigQuiet

namespace Go.Proofs.YtpbimdkclnekeaaGreat
open Go.RowKit

/-- A list of tiers in memory: by index From, Width, Keep. -/
def TS (w : World) (a : Option Addr) (n : Nat) (F W K : Nat → Int) : Prop :=
  0 < n → ∃ b off, a = some ⟨b, off, none⟩ ∧ b < w.heap.size ∧ ∀ i, i < n → w.cell? ⟨b, off + i * 3, none⟩ = some (.int .i64 (F i)) ∧ w.cell? ⟨b, off + i * 3 + 1, none⟩ = some (.int .i64 (W i)) ∧ w.cell? ⟨b, off + i * 3 + 2, none⟩ = some (.int .i64 (K i))

theorem TS.below {w w' : World} {a : Option Addr} {n : Nat} {F W K : Nat → Int} (h : TS w a n F W K) (hb : Below w.heap.size w w') : TS w' a n F W K := fun h0 => by
  obtain ⟨b, off, rfl, hlt, hc⟩ := h h0
  have e : ∀ o, w'.cell? ⟨b, o, none⟩ = w.cell? ⟨b, o, none⟩ := fun o => hb.cell (p := ⟨b, o, none⟩) hlt
  exact ⟨b, off, rfl, Nat.lt_of_lt_of_le hlt hb.size, fun i hi => by simp only [e]; exact hc i hi⟩

theorem cell_at (w : World) (C : Array Value) (t : TypeId) (fr : Nat × Nat) (n j : Nat) (hn : n = w.heap.size) : (w.alloc (.cells C t fr)).cell? ⟨n, j, none⟩ = C[j]? := by
  subst hn
  exact World.cell?_alloc_mark w C t fr j

/-- A configuration's cells in block p. -/
def CF (w : World) (p : Nat) (s le la wi ke qu : Int) (a : Option Addr) (n cap : Nat) : Prop :=
  p < w.heap.size ∧ w.cell? ⟨p, 0, none⟩ = some (.int .i64 s) ∧ w.cell? ⟨p, 1, none⟩ = some (.int .i64 le) ∧ w.cell? ⟨p, 2, none⟩ = some (.int .i64 la) ∧ w.cell? ⟨p, 3, none⟩ = some (.int .i64 wi) ∧ w.cell? ⟨p, 4, none⟩ = some (.int .i64 ke) ∧ w.cell? ⟨p, 5, none⟩ = some (.int .i64 qu) ∧ w.cell? ⟨p, 6, none⟩ = some (.slice a n cap)

theorem CF.made (w : World) (t : TypeId) (fr : Nat × Nat) (s le la wi ke qu : Int) (a : Option Addr) (n cap : Nat) :
    CF (w.alloc (.cells #[.int .i64 s, .int .i64 le, .int .i64 la, .int .i64 wi, .int .i64 ke, .int .i64 qu, .slice a n cap] t fr)) w.heap.size s le la wi ke qu a n cap := by
  refine ⟨by simp, ?_, ?_, ?_, ?_, ?_, ?_, ?_⟩ <;> rw [cell_at _ _ _ _ _ _ rfl] <;> rfl

theorem CF.below {w w' : World} {p B : Nat} {s le la wi ke qu : Int} {a : Option Addr} {n cap : Nat} (h : CF w p s le la wi ke qu a n cap) (hb : Below B w w') (hB : p < B) : CF w' p s le la wi ke qu a n cap := by
  have e : ∀ o, w'.cell? ⟨p, o, none⟩ = w.cell? ⟨p, o, none⟩ := fun o => hb.cell (p := ⟨p, o, none⟩) hB
  obtain ⟨h0, h⟩ := h
  exact ⟨Nat.lt_of_lt_of_le h0 hb.size, by simp only [e]; exact h⟩

theorem ret_bool {a b : Bool} (h : a = b) : Ending.returned (.bool a) = .returned (.bool b) := by rw [h]
set_option maxHeartbeats 400000 in
theorem within_any (x lo hi : Int) (w : World) :
    Calls Tryz.prog 77 #[.int .i64 x, .int .i64 lo, .int .i64 hi] w fun e w' => e = .returned (.bool (inB x lo hi)) ∧ w' = w := by
  by_cases h1 : lo ≤ x
  · by_cases h2 : x ≤ hi
    all_goals
      go_enter Tryz.func77, Tryz.ntmps77
      go_wp2
      go_ret
      exact ⟨ret_bool (by simp [inB, *]), rfl⟩
  · go_enter Tryz.func77, Tryz.ntmps77
    go_wp2
    go_ret
    exact ⟨ret_bool (by simp [inB]; omega), rfl⟩

set_option maxHeartbeats 400000 in
theorem width_raw (s le la wi ke qu : Int) (a : Option Addr) (n cap : Nat) (w : World) :
    Calls Tryz.prog 206 #[.agg #[.int .i64 s, .int .i64 le, .int .i64 la, .int .i64 wi, .int .i64 ke, .int .i64 qu, .slice a n cap], .int .i64 (-1)] w fun e w' => e = .returned (.int .i64 wi) ∧ Below w.heap.size w w' := by
  go_enter Tryz.func206, Tryz.ntmps206
  go_wp2
  go_ret
  exact ⟨rfl, (Below.refl _ _).alloc (Nat.le_refl _) _⟩

set_option maxHeartbeats 400000 in
theorem width_tier (s le la wi ke qu : Int) (a : Option Addr) (n cap : Nat) (F W K : Nat → Int) (i : Nat) (hi : i < n) (hn : n ≤ 4) (w : World) (h : TS w a n F W K) :
    Calls Tryz.prog 206 #[.agg #[.int .i64 s, .int .i64 le, .int .i64 la, .int .i64 wi, .int .i64 ke, .int .i64 qu, .slice a n cap], .int .i64 i] w fun e w' => e = .returned (.int .i64 (W i)) ∧ Below w.heap.size w w' := by
  obtain ⟨b, off, rfl, hbz, hc⟩ := h (by omega)
  obtain ⟨h1, h2, h3⟩ := hc i hi
  have hne : ((i : Int) == -1) = false := beq_eq_false_iff_ne.2 (by omega)
  have hlt : (i : Int) < n := by omega
  go_enter Tryz.func206, Tryz.ntmps206
  go_wp2
  go_ret
  exact ⟨rfl, (Below.refl _ _).alloc (Nat.le_refl _) _⟩

/-- both at once: a tier, or the raw numbers. -/
theorem width_any (s le la wi ke qu : Int) (a : Option Addr) (n cap : Nat) (F W K : Nat → Int) (t : Int) (ht0 : -1 ≤ t) (ht : t < n) (hn : n ≤ 4) (w : World) (h : TS w a n F W K) :
    Calls Tryz.prog 206 #[.agg #[.int .i64 s, .int .i64 le, .int .i64 la, .int .i64 wi, .int .i64 ke, .int .i64 qu, .slice a n cap], .int .i64 t] w fun e w' => e = .returned (.int .i64 (widthOf wi W t)) ∧ Below w.heap.size w w' := by
  by_cases e : t = -1
  · subst e; simp only [widthOf, if_pos]; exact width_raw s le la wi ke qu a n cap w
  · obtain ⟨i, rfl⟩ := Int.eq_ofNat_of_zero_le (show 0 ≤ t by omega)
    simp only [widthOf, if_neg e, Int.toNat_natCast]; exact width_tier s le la wi ke qu a n cap F W K i (by omega) hn w h
set_option maxHeartbeats 400000 in
theorem comesToRaw_any (a : Option Addr) (n cap : Nat) (F W K : Nat → Int) (t0 : Nat) (hi : t0 < n) (hn : n ≤ 4) (hF : ∀ i, i < n → -1 ≤ F i ∧ F i < n) (w : World) (h : TS w a n F W K) :
    Calls Tryz.prog 207 #[.slice a n cap, .int .i64 t0] w fun e w' => e = .returned (.bool (down F n t0)) ∧ w' = w := by
  obtain ⟨b, off, rfl, hbz, hc⟩ := h (by omega)
  go_enter Tryz.func207, Tryz.ntmps207
  go_wp2
  go_loop [1, 7] (fun x y => ∃ (t k : Nat), t < n ∧ k ≤ n ∧ x = .int .i64 t ∧ y = .int .i64 k ∧ down F n t0 = down F (n - k) t) (fun _ y => n - (intOf y).toNat)
  case atStart => exact ⟨t0, 0, hi, Nat.zero_le _, rfl, rfl, rfl⟩
  case round =>
    obtain ⟨t, k, ht, hk, rfl, rfl, he⟩ := hrel
    have HE : Hid (down F n t0 = down F (n - k) t) := he
    clear he
    obtain ⟨h1, _, _⟩ := hc t ht
    have hb := hF t ht
    have htn : (t : Int) < n := by omega
    by_cases hlt : k < n
    · have hs : down F (n - k) t = (F t == -1 || down F (n - (k + 1)) (F t)) := by
        rw [show n - k = (n - (k + 1)) + 1 by omega, down]; simp
      have HS := hs; clear hs
      have HS : Hid (down F n t0 = (F t == -1 || down F (n - (k + 1)) (F t))) := by rw [HE.out]; exact HS
      by_cases e : F t = -1
      · have HT : Hid (down F n t0 = true) := by rw [HS.out, e]; simp [Hid]
        clear HS HE
        have e' : (F t == -1) = true := by simp [e]
        clear e
        go_wp2
        go_ret
        exact ⟨ret_bool HT.out.symm, rfl⟩
      · have e' : (F t == -1) = false := by simp [e]
        obtain ⟨m, hm⟩ := Int.eq_ofNat_of_zero_le (show 0 ≤ F t by omega)
        have HM : Hid (F t = m) := hm
        clear hm e
        go_wp2
        go_round
        case rel => exact ⟨m, k + 1, by have := HM.out; omega, by omega, by rw [HM.out], by go_num, by rw [HS.out, e', HM.out]; simp⟩
        case measure => simp [intOf]; omega
    · go_wp2
      go_ret
      exact ⟨ret_bool (by rw [HE.out, show n - k = 0 by omega]; rfl), rfl⟩

set_option maxHeartbeats 400000 in
theorem bounds_any (a : Option Addr) (n cap : Nat) (F W K : Nat → Int) (hn : n ≤ 4) (w : World) (h : TS w a n F W K) :
    Calls Tryz.prog 171 #[.slice a n cap] w fun e w' => e = .returned (.bool (allB n (tierB n F W K))) ∧ Below w.heap.size w w' := by
  go_enter Tryz.func171, Tryz.ntmps171
  go_wp2
  go_loopw [2, 4, 7] (fun _ _ y wr => ∃ (k : Nat), k ≤ n ∧ y = .int .i64 k ∧ allB k (tierB n F W K) = true ∧ Below w.heap.size w wr) (fun _ _ y _ => n - (intOf y).toNat)
  case atStart => exact ⟨0, Nat.zero_le _, rfl, allB_zero _, Below.refl _ _⟩
  case round =>
    obtain ⟨k, hk, rfl, ha, hb⟩ := hrel
    have HA : Hid (allB k (tierB n F W K) = true) := ha
    clear ha
    by_cases hlt : k < n
    · have h' := h.below hb
      obtain ⟨b, off, rfl, hbz, hc⟩ := h' (by omega)
      obtain ⟨h1, h2, h3⟩ := hc k hlt
      have hkn : (k : Int) < n := by omega
      clear hc h h'
      cases e1 : inB (F k) (-1) ((n : Int) - 1)
      · have HF : Hid (allB n (tierB n F W K) = false) := allB_false_of _ _ k hlt (by simp [tierB, e1])
        go_wp2_with (go_at_call 77; refine (within_any _ _ _ _).mono ?_; rintro e w' ⟨rfl, rfl⟩)
        go_ret
        exact ⟨ret_bool HF.out.symm, hb.alloc hb.size _⟩
      · cases e2 : inB (W k) 1 1000
        · have HF : Hid (allB n (tierB n F W K) = false) := allB_false_of _ _ k hlt (by simp [tierB, e2])
          go_wp2_with (go_at_call 77; refine (within_any _ _ _ _).mono ?_; rintro e w' ⟨rfl, rfl⟩)
          go_ret
          exact ⟨ret_bool HF.out.symm, hb.alloc hb.size _⟩
        · cases e3 : inB (K k) 0 1000
          · have HF : Hid (allB n (tierB n F W K) = false) := allB_false_of _ _ k hlt (by simp [tierB, e3])
            go_wp2_with (go_at_call 77; refine (within_any _ _ _ _).mono ?_; rintro e w' ⟨rfl, rfl⟩)
            go_ret
            exact ⟨ret_bool HF.out.symm, hb.alloc hb.size _⟩
          · have HF : Hid (allB (k + 1) (tierB n F W K) = true) := by
              show _ = _
              rw [allB_succ, HA.out]; simp [tierB, e1, e2, e3]
            go_wp2_with (go_at_call 77; refine (within_any _ _ _ _).mono ?_; rintro e w' ⟨rfl, rfl⟩)
            go_roundw
            case rel => exact ⟨k + 1, by omega, by go_num, HF.out, hb.alloc hb.size _⟩
            case measure => simp [intOf]; omega
    · have e : k = n := by omega
      subst e
      go_wp2
      go_ret
      exact ⟨ret_bool HA.out.symm, hb⟩
end Go.Proofs.YtpbimdkclnekeaaGreat
