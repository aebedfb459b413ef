import Derived.Test.YtgadceofpbfleaaGreatQConf1
import Derived.Test.YtgadceofpbfleaaGreatQLater

/- Walks: tiersFit, Right. -/
namespace Go.Proofs.YtgadceofpbfleaaGreat
open Go.RowKit

set_option maxHeartbeats 1000000 in
theorem fit_any (s le la wi ke qu : Int) (a : Option Addr) (n cap : Nat) (F W K : Nat → Int) (hn : n ≤ 4) (hF : ∀ i, i < n → -1 ≤ F i ∧ F i < n) (hwi : 1 ≤ wi ∧ wi ≤ 1000) (hW : ∀ i, i < n → 1 ≤ W i ∧ W i ≤ 1000) (w : World) (h : TS w a n F W K) :
    Calls Tryz.prog 85 #[.agg #[.int .i64 s, .int .i64 le, .int .i64 la, .int .i64 wi, .int .i64 ke, .int .i64 qu, .slice a n cap]] w fun e w' => e = .returned (.bool (allB n (fitB n wi F W))) ∧ Below w.heap.size w w' := by
  go_enter Tryz.func85, Tryz.ntmps85
  go_wp2
  go_loopw [2, 3, 4, 8] (fun _ _ _ y wr => ∃ (k : Nat), k ≤ n ∧ y = .int .i64 k ∧ allB k (fitB n wi F W) = true ∧ Below (w.heap.size + 1) (w.alloc (.cells #[.int .i64 s, .int .i64 le, .int .i64 la, .int .i64 wi, .int .i64 ke, .int .i64 qu, .slice a n cap] 35)) wr) (fun _ _ _ y _ => n - (intOf y).toNat)
  case atStart => exact ⟨0, Nat.zero_le _, rfl, allB_zero _, Below.refl _ _⟩
  case round =>
    obtain ⟨k, hk, rfl, ha, hb⟩ := hrel
    have HA : Hid (allB k (fitB n wi F W) = true) := ha
    clear ha
    have hbw : Below w.heap.size w wr := ((Below.refl _ _).alloc (Nat.le_refl _) _).trans (hb.mono (by omega))
    have hsz : w.heap.size < wr.heap.size := by have := hb.size; simp at this; omega
    by_cases hlt : k < n
    · have h' := h.below hbw
      have hcf := (CF.made w 35 (0, 0) s le la wi ke qu a n cap).below hb (by omega)
      obtain ⟨_, c0, c1, c2, c3, c4, c5, c6⟩ := hcf
      have hta := h'
      obtain ⟨b, off, rfl, hbz, hc⟩ := h' (by omega)
      obtain ⟨h1, h2, h3⟩ := hc k hlt
      have hkn : (k : Int) < n := by omega
      have hf := hF k hlt
      clear hc h h'
      have hwb : 1 ≤ widthOf wi W (F k) ∧ widthOf wi W (F k) ≤ 1000 := by
        unfold widthOf
        by_cases e : F k = -1
        · rw [if_pos e]; omega
        · rw [if_neg e]; exact hW _ (by omega)
      obtain ⟨hwb1, hwb2⟩ := hwb
      have hwk := hW k hlt
      by_cases e1 : W k % widthOf wi W (F k) = 0
      · have hq : (W k % widthOf wi W (F k) != 0) = false := by simp [e1]
        cases e2 : down F n k
        · have HF : Hid (allB n (fitB n wi F W) = false) := allB_false_of _ _ k hlt (by simp [fitB, e2])
          clear e1
          have hne : Nonempty (Later (wr.heap.size + 1) (wr.alloc (Obj.cells #[Value.int IntKind.i64 (F k), Value.int IntKind.i64 (W k), Value.int IntKind.i64 (K k)] 32))) := Later.some _ _
          have hlc := fun (u : Later (wr.heap.size + 1) (wr.alloc (Obj.cells #[Value.int IntKind.i64 (F k), Value.int IntKind.i64 (W k), Value.int IntKind.i64 (K k)] 32))) b o h => u.cell b o h
          go_wp2
          refine wp_region_later (wr.heap.size + 1) (by kernel_rfl) (by kernel_rfl) ?_
          repeat (go_big_quiet_step (first
            | (go_at_call 101; exact Calls.later (by simp) (width_any s le la wi ke qu _ n cap F W K _ hf.1 hf.2 hn _ (hta.below (((Below.refl _ _).alloc (Nat.le_refl _) _).trans (Below.mono (Subtype.property _) (by omega))))))
            | (go_at_call 102; exact Calls.later_same (comesToRaw_any _ n cap F W K k hlt hn hF _ (hta.below (((Below.refl _ _).alloc (Nat.le_refl _) _).trans (Below.mono (Subtype.property _) (by omega))))))))
          refine wpQuiet_nil ?_
          rintro ⟨w1, hb1⟩
          have hb2 : Below (wr.heap.size) wr w1 := ((Below.refl _ _).alloc (Nat.le_refl _) _).trans (hb1.mono (by omega))
          have hb3 : Below (w.heap.size + 1) wr w1 := hb2.mono (by omega)
          clear hlc hne
          dsimp only
          go_wp2
          go_ret
          exact ⟨ret_bool HF.out.symm, hbw.trans (hb3.mono (by omega))⟩
        · have HF : Hid (allB (k + 1) (fitB n wi F W) = true) := by
            show _ = _
            rw [allB_succ, HA.out]; simp [fitB, e1, e2]
          clear e1
          have hne : Nonempty (Later (wr.heap.size + 1) (wr.alloc (Obj.cells #[Value.int IntKind.i64 (F k), Value.int IntKind.i64 (W k), Value.int IntKind.i64 (K k)] 32))) := Later.some _ _
          have hlc := fun (u : Later (wr.heap.size + 1) (wr.alloc (Obj.cells #[Value.int IntKind.i64 (F k), Value.int IntKind.i64 (W k), Value.int IntKind.i64 (K k)] 32))) b o h => u.cell b o h
          go_wp2
          refine wp_region_later (wr.heap.size + 1) (by kernel_rfl) (by kernel_rfl) ?_
          repeat (go_big_quiet_step (first
            | (go_at_call 101; exact Calls.later (by simp) (width_any s le la wi ke qu _ n cap F W K _ hf.1 hf.2 hn _ (hta.below (((Below.refl _ _).alloc (Nat.le_refl _) _).trans (Below.mono (Subtype.property _) (by omega))))))
            | (go_at_call 102; exact Calls.later_same (comesToRaw_any _ n cap F W K k hlt hn hF _ (hta.below (((Below.refl _ _).alloc (Nat.le_refl _) _).trans (Below.mono (Subtype.property _) (by omega))))))))
          refine wpQuiet_nil ?_
          rintro ⟨w1, hb1⟩
          have hb2 : Below (wr.heap.size) wr w1 := ((Below.refl _ _).alloc (Nat.le_refl _) _).trans (hb1.mono (by omega))
          have hb3 : Below (w.heap.size + 1) wr w1 := hb2.mono (by omega)
          clear hlc hne
          dsimp only
          go_wp2
          go_roundw
          case rel => exact ⟨k + 1, by omega, by go_num, HF.out, hb.trans hb3⟩
          case measure => simp [intOf]; omega
      · have hq : (W k % widthOf wi W (F k) != 0) = true := by simp [e1]
        have HF : Hid (allB n (fitB n wi F W) = false) := allB_false_of _ _ k hlt (by simp [fitB, e1])
        clear e1
        have hne : Nonempty (Later (wr.heap.size + 1) (wr.alloc (Obj.cells #[Value.int IntKind.i64 (F k), Value.int IntKind.i64 (W k), Value.int IntKind.i64 (K k)] 32))) := Later.some _ _
        have hlc := fun (u : Later (wr.heap.size + 1) (wr.alloc (Obj.cells #[Value.int IntKind.i64 (F k), Value.int IntKind.i64 (W k), Value.int IntKind.i64 (K k)] 32))) b o h => u.cell b o h
        go_wp2
        refine wp_region_later (wr.heap.size + 1) (by kernel_rfl) (by kernel_rfl) ?_
        repeat (go_big_quiet_step (first
          | (go_at_call 101; exact Calls.later (by simp) (width_any s le la wi ke qu _ n cap F W K _ hf.1 hf.2 hn _ (hta.below (((Below.refl _ _).alloc (Nat.le_refl _) _).trans (Below.mono (Subtype.property _) (by omega))))))
          | (go_at_call 102; exact Calls.later_same (comesToRaw_any _ n cap F W K k hlt hn hF _ (hta.below (((Below.refl _ _).alloc (Nat.le_refl _) _).trans (Below.mono (Subtype.property _) (by omega))))))))
        refine wpQuiet_nil ?_
        rintro ⟨w1, hb1⟩
        have hb2 : Below (wr.heap.size) wr w1 := ((Below.refl _ _).alloc (Nat.le_refl _) _).trans (hb1.mono (by omega))
        have hb3 : Below (w.heap.size + 1) wr w1 := hb2.mono (by omega)
        clear hlc hne
        dsimp only
        go_wp2
        go_ret
        exact ⟨ret_bool HF.out.symm, hbw.trans (hb3.mono (by omega))⟩
    · have e : k = n := by omega
      subst e
      go_wp2
      go_ret
      exact ⟨ret_bool HA.out.symm, hbw⟩
end Go.Proofs.YtgadceofpbfleaaGreat

/- Walks: Right, the program's and the document's. -/
namespace Go.Proofs.YtgadceofpbfleaaGreat
open Go.RowKit

set_option maxHeartbeats 1000000 in
theorem layoutRight_any (s le la wi ke qu : Int) (a : Option Addr) (n cap : Nat) (F W K : Nat → Int) (w : World) (h : TS w a n F W K) :
    Calls Tryz.prog 50 #[.agg #[.int .i64 s, .int .i64 le, .int .i64 la, .int .i64 wi, .int .i64 ke, .int .i64 qu, .slice a n cap]] w fun e w' => e = .returned (.bool (rightB s le la wi ke qu n F W K)) ∧ Below w.heap.size w w' := by
  cases e0 : inB s 1 4
  · have HF : Hid (rightB s le la wi ke qu n F W K = false) := by show _ = _; simp [rightB, e0]
    go_enter Tryz.func50, Tryz.ntmps50
    go_wp2_with (go_at_call 83; refine (within_any _ _ _ _).mono ?_; rintro e w' ⟨rfl, rfl⟩)
    go_ret
    exact ⟨ret_bool HF.out.symm, (Below.refl _ _).alloc (Nat.le_refl _) _⟩
  cases e1 : inB le 1 100
  · have HF : Hid (rightB s le la wi ke qu n F W K = false) := by show _ = _; simp [rightB, e1]
    go_enter Tryz.func50, Tryz.ntmps50
    go_wp2_with (go_at_call 83; refine (within_any _ _ _ _).mono ?_; rintro e w' ⟨rfl, rfl⟩)
    go_ret
    exact ⟨ret_bool HF.out.symm, (Below.refl _ _).alloc (Nat.le_refl _) _⟩
  cases e2 : inB la 0 100
  · have HF : Hid (rightB s le la wi ke qu n F W K = false) := by show _ = _; simp [rightB, e2]
    go_enter Tryz.func50, Tryz.ntmps50
    go_wp2_with (go_at_call 83; refine (within_any _ _ _ _).mono ?_; rintro e w' ⟨rfl, rfl⟩)
    go_ret
    exact ⟨ret_bool HF.out.symm, (Below.refl _ _).alloc (Nat.le_refl _) _⟩
  cases e3 : inB wi 1 50
  · have HF : Hid (rightB s le la wi ke qu n F W K = false) := by show _ = _; simp [rightB, e3]
    go_enter Tryz.func50, Tryz.ntmps50
    go_wp2_with (go_at_call 83; refine (within_any _ _ _ _).mono ?_; rintro e w' ⟨rfl, rfl⟩)
    go_ret
    exact ⟨ret_bool HF.out.symm, (Below.refl _ _).alloc (Nat.le_refl _) _⟩
  cases e4 : inB ke 0 1000
  · have HF : Hid (rightB s le la wi ke qu n F W K = false) := by show _ = _; simp [rightB, e4]
    go_enter Tryz.func50, Tryz.ntmps50
    go_wp2_with (go_at_call 83; refine (within_any _ _ _ _).mono ?_; rintro e w' ⟨rfl, rfl⟩)
    go_ret
    exact ⟨ret_bool HF.out.symm, (Below.refl _ _).alloc (Nat.le_refl _) _⟩
  cases e5 : inB qu 1 400
  · have HF : Hid (rightB s le la wi ke qu n F W K = false) := by show _ = _; simp [rightB, e5]
    go_enter Tryz.func50, Tryz.ntmps50
    go_wp2_with (go_at_call 83; refine (within_any _ _ _ _).mono ?_; rintro e w' ⟨rfl, rfl⟩)
    go_ret
    exact ⟨ret_bool HF.out.symm, (Below.refl _ _).alloc (Nat.le_refl _) _⟩
  cases e6 : inB (n : Int) 1 4
  · have HF : Hid (rightB s le la wi ke qu n F W K = false) := by show _ = _; simp [rightB, e6]
    go_enter Tryz.func50, Tryz.ntmps50
    go_wp2_with (go_at_call 83; refine (within_any _ _ _ _).mono ?_; rintro e w' ⟨rfl, rfl⟩)
    go_ret
    exact ⟨ret_bool HF.out.symm, (Below.refl _ _).alloc (Nat.le_refl _) _⟩
  have hn : n ≤ 4 := by rw [inB_iff] at e6; omega
  have hwi : 1 ≤ wi ∧ wi ≤ 1000 := by rw [inB_iff] at e3; omega
  have h1 : TS (w.alloc (.cells #[.int .i64 s, .int .i64 le, .int .i64 la, .int .i64 wi, .int .i64 ke, .int .i64 qu, .slice a n cap] 35)) a n F W K := h.below ((Below.refl _ _).alloc (Nat.le_refl _) _)
  cases e7 : allB n (tierB n F W K)
  · have HF : Hid (rightB s le la wi ke qu n F W K = false) := by show _ = _; simp [rightB, e7]
    go_enter Tryz.func50, Tryz.ntmps50
    go_wp2_with (first | (go_at_call 83; refine (within_any _ _ _ _).mono ?_; rintro e w' ⟨rfl, rfl⟩) | (go_at_call 84; refine (bounds_any _ n cap F W K hn _ h1).mono ?_; rintro e w' ⟨rfl, hb⟩))
    go_ret
    exact ⟨ret_bool HF.out.symm, ((Below.refl _ _).alloc (Nat.le_refl _) _).trans (hb.mono (by simp))⟩
  · have hF : ∀ i, i < n → -1 ≤ F i ∧ F i < n := fun i hi => by
      have := (allB_iff _ _).1 e7 i hi; simp only [tierB, Bool.and_eq_true, inB_iff] at this; omega
    have hW : ∀ i, i < n → 1 ≤ W i ∧ W i ≤ 1000 := fun i hi => by
      have := (allB_iff _ _).1 e7 i hi; simp only [tierB, Bool.and_eq_true, inB_iff] at this; omega
    have HR : Hid (rightB s le la wi ke qu n F W K = allB n (fitB n wi F W)) := by show _ = _; simp [rightB, e0, e1, e2, e3, e4, e5, e6, e7]
    go_enter Tryz.func50, Tryz.ntmps50
    go_wp2_with (first | (go_at_call 83; refine (within_any _ _ _ _).mono ?_; rintro e w' ⟨rfl, rfl⟩) | (go_at_call 84; refine (bounds_any _ n cap F W K hn _ h1).mono ?_; rintro e w' ⟨rfl, hb⟩; obtain ⟨_, c0, c1, c2, c3, c4, c5, c6⟩ := (CF.made w 35 (0, 0) s le la wi ke qu a n cap).below hb (by simp)) | (go_at_call 85; refine (fit_any s le la wi ke qu _ n cap F W K hn hF hwi hW _ (h1.below hb)).mono ?_; rintro e w2 ⟨rfl, hb2⟩))
    go_ret
    exact ⟨ret_bool HR.out.symm, (((Below.refl _ _).alloc (Nat.le_refl _) _).trans (hb.mono (by simp))).trans (hb2.mono (by have := hb.size; simp at this; omega))⟩
set_option maxHeartbeats 1000000 in
theorem millRight_any (s le la wi ke qu : Int) (a : Option Addr) (n cap : Nat) (F W K : Nat → Int) (w : World) (h : TS w a n F W K) :
    Calls Tryz.prog 29 #[.agg #[.int .i64 s, .int .i64 le, .int .i64 la, .int .i64 wi, .int .i64 ke, .int .i64 qu, .slice a n cap]] w fun e w' => e = .returned (.int .i64 (codeOf (rightB s le la wi ke qu n F W K))) ∧ Below w.heap.size w w' := by
  have h1 : TS (w.alloc (.cells #[.int .i64 s, .int .i64 le, .int .i64 la, .int .i64 wi, .int .i64 ke, .int .i64 qu, .slice a n cap] 35)) a n F W K := h.below ((Below.refl _ _).alloc (Nat.le_refl _) _)
  cases e : rightB s le la wi ke qu n F W K
  all_goals
    go_enter Tryz.func29, Tryz.ntmps29
    go_wp2_with (go_at_call 50; refine (layoutRight_any s le la wi ke qu _ n cap F W K _ h1).mono ?_; rintro e w' ⟨rfl, hb⟩)
    go_ret
    exact ⟨rfl, ((Below.refl _ _).alloc (Nat.le_refl _) _).trans (hb.mono (by simp))⟩

set_option maxHeartbeats 400000 in
theorem num_any (x : Int) (w : World) : Calls Tryz.prog 24 #[.int .i64 x] w fun e w' => e = .returned (.int .i64 x) ∧ w' = w := by
  go_enter Tryz.func24, Tryz.ntmps24
  go_wp2
  go_ret
  exact ⟨rfl, rfl⟩
end Go.Proofs.YtgadceofpbfleaaGreat

/- Walk: the document's Right. -/
namespace Go.Proofs.YtgadceofpbfleaaGreat
open Go.RowKit

set_option maxHeartbeats 1000000 in
theorem refRight_head (s le la wi ke qu : Int) (a : Option Addr) (n cap : Nat) (w : World) (h : headB s le la wi ke qu n = false) :
    Calls Tryz.prog 13 #[.agg #[.int .i64 s, .int .i64 le, .int .i64 la, .int .i64 wi, .int .i64 ke, .int .i64 qu, .slice a n cap]] w fun e w' => e = .returned (.int .i64 1) ∧ Below w.heap.size w w' := by
  cases e0 : inB s 1 4
  · clear h
    go_enter Tryz.func13, Tryz.ntmps13
    go_wp2_with (go_at_call 25; refine (in_any _ _ _ _).mono ?_; rintro e w' ⟨rfl, rfl⟩)
    go_ret
    exact ⟨rfl, (Below.refl _ _).alloc (Nat.le_refl _) _⟩
  cases e1 : inB le 1 100
  · clear h
    go_enter Tryz.func13, Tryz.ntmps13
    go_wp2_with (go_at_call 25; refine (in_any _ _ _ _).mono ?_; rintro e w' ⟨rfl, rfl⟩)
    go_ret
    exact ⟨rfl, (Below.refl _ _).alloc (Nat.le_refl _) _⟩
  cases e2 : inB la 0 100
  · clear h
    go_enter Tryz.func13, Tryz.ntmps13
    go_wp2_with (go_at_call 25; refine (in_any _ _ _ _).mono ?_; rintro e w' ⟨rfl, rfl⟩)
    go_ret
    exact ⟨rfl, (Below.refl _ _).alloc (Nat.le_refl _) _⟩
  cases e3 : inB wi 1 50
  · clear h
    go_enter Tryz.func13, Tryz.ntmps13
    go_wp2_with (go_at_call 25; refine (in_any _ _ _ _).mono ?_; rintro e w' ⟨rfl, rfl⟩)
    go_ret
    exact ⟨rfl, (Below.refl _ _).alloc (Nat.le_refl _) _⟩
  cases e4 : inB ke 0 1000
  · clear h
    go_enter Tryz.func13, Tryz.ntmps13
    go_wp2_with (go_at_call 25; refine (in_any _ _ _ _).mono ?_; rintro e w' ⟨rfl, rfl⟩)
    go_ret
    exact ⟨rfl, (Below.refl _ _).alloc (Nat.le_refl _) _⟩
  cases e5 : inB qu 1 400
  · clear h
    go_enter Tryz.func13, Tryz.ntmps13
    go_wp2_with (go_at_call 25; refine (in_any _ _ _ _).mono ?_; rintro e w' ⟨rfl, rfl⟩)
    go_ret
    exact ⟨rfl, (Below.refl _ _).alloc (Nat.le_refl _) _⟩
  cases e6 : inB (n : Int) 1 4
  · clear h
    go_enter Tryz.func13, Tryz.ntmps13
    go_wp2_with (go_at_call 25; refine (in_any _ _ _ _).mono ?_; rintro e w' ⟨rfl, rfl⟩)
    go_ret
    exact ⟨rfl, (Below.refl _ _).alloc (Nat.le_refl _) _⟩
  simp [headB, e0, e1, e2, e3, e4, e5, e6] at h

set_option maxHeartbeats 1000000 in
theorem refRight_tail (s le la wi ke qu : Int) (a : Option Addr) (n cap : Nat) (F W K : Nat → Int) (w : World) (h : TS w a n F W K) (hh : headB s le la wi ke qu n = true) :
    Calls Tryz.prog 13 #[.agg #[.int .i64 s, .int .i64 le, .int .i64 la, .int .i64 wi, .int .i64 ke, .int .i64 qu, .slice a n cap]] w fun e w' => e = .returned (.int .i64 (codeOf (allB n (tierD n F W K) && allB n (fitD wi F W)))) ∧ Below w.heap.size w w' := by
  simp only [headB, Bool.and_eq_true] at hh
  obtain ⟨⟨⟨⟨⟨⟨e0, e1⟩, e2⟩, e3⟩, e4⟩, e5⟩, e6⟩ := hh
  have hn : n ≤ 4 := by rw [inB_iff] at e6; omega
  have hwi : 1 ≤ wi ∧ wi ≤ 1000 := by rw [inB_iff] at e3; omega
  have hB1 : Below w.heap.size w (w.alloc (.cells #[.int .i64 s, .int .i64 le, .int .i64 la, .int .i64 wi, .int .i64 ke, .int .i64 qu, .slice a n cap] 35)) := (Below.refl _ _).alloc (Nat.le_refl _) _
  go_enter Tryz.func13, Tryz.ntmps13
  go_wp2_with (go_at_call 25; refine (in_any _ _ _ _).mono ?_; rintro e w' ⟨rfl, rfl⟩)
  go_loopw [2, 10, 11, 12, 13, 14] (fun _ y _ _ _ _ wr => ∃ (k : Nat), k ≤ n ∧ y = .int .i64 k ∧ allB k (tierD n F W K) = true ∧ Below (w.heap.size + 1) (w.alloc (.cells #[.int .i64 s, .int .i64 le, .int .i64 la, .int .i64 wi, .int .i64 ke, .int .i64 qu, .slice a n cap] 35)) wr) (fun _ y _ _ _ _ _ => n - (intOf y).toNat)
  case atStart => exact ⟨0, Nat.zero_le _, rfl, allB_zero _, Below.refl _ _⟩
  case round =>
    obtain ⟨k, hk, rfl, ha, hb⟩ := hrel
    have HA : Hid (allB k (tierD n F W K) = true) := ha
    clear ha
    have hbw : Below w.heap.size w wr := hB1.trans (hb.mono (by omega))
    have hsz : w.heap.size < wr.heap.size := by have := hb.size; simp at this; omega
    obtain ⟨_, c0, c1, c2, c3, c4, c5, c6⟩ := (CF.made w 35 (0, 0) s le la wi ke qu a n cap).below hb (by omega)
    by_cases hlt : k < n
    · have hta := h.below hbw
      obtain ⟨b, off, rfl, hbz, hc⟩ := h.below hbw (by omega)
      obtain ⟨h1, h2, h3⟩ := hc k hlt
      have hkn : (k : Int) < n := by omega
      clear hc
      cases f0 : looksDown n F (n + 1) k
      · have HF : Hid ((allB n (tierD n F W K) && allB n (fitD wi F W)) = false) := by show _ = _; rw [allB_false_of _ _ k hlt (by simp [tierD, f0])]; rfl
        go_wp2_with (first | (go_at_call 25; refine (in_any _ _ _ _).mono ?_; rintro e w' ⟨rfl, rfl⟩) | (go_at_call 26; refine (comes_any s le la wi ke qu _ n cap F W K k hlt hn _ (hta.below ((Below.refl _ _).alloc (Nat.le_refl _) _))).mono ?_; rintro e w1 ⟨rfl, hb0⟩; have hb1 : Below wr.heap.size wr w1 := ((Below.refl _ _).alloc (Nat.le_refl _) _).trans (hb0.mono (by simp)); have hx : ∀ o, w1.cell? ⟨wr.heap.size, o, none⟩ = _ := (fun o => (hb0.cell (p := ⟨wr.heap.size, o, none⟩) (by simp)).trans (cell_at _ _ _ _ _ _ rfl)); have x1 := hx 1; have x2 := hx 2; clear hx hb0))
        go_ret
        exact ⟨ret_int (codeOf_false HF.out).symm, hbw.trans (hb1.mono (by omega))⟩
      · cases f1 : inB (W k) 1 1000
        · have HF : Hid ((allB n (tierD n F W K) && allB n (fitD wi F W)) = false) := by show _ = _; rw [allB_false_of _ _ k hlt (by simp [tierD, f1])]; rfl
          go_wp2_with (first | (go_at_call 25; refine (in_any _ _ _ _).mono ?_; rintro e w' ⟨rfl, rfl⟩) | (go_at_call 26; refine (comes_any s le la wi ke qu _ n cap F W K k hlt hn _ (hta.below ((Below.refl _ _).alloc (Nat.le_refl _) _))).mono ?_; rintro e w1 ⟨rfl, hb0⟩; have hb1 : Below wr.heap.size wr w1 := ((Below.refl _ _).alloc (Nat.le_refl _) _).trans (hb0.mono (by simp)); have hx : ∀ o, w1.cell? ⟨wr.heap.size, o, none⟩ = _ := (fun o => (hb0.cell (p := ⟨wr.heap.size, o, none⟩) (by simp)).trans (cell_at _ _ _ _ _ _ rfl)); have x1 := hx 1; have x2 := hx 2; clear hx hb0))
          go_ret
          exact ⟨ret_int (codeOf_false HF.out).symm, hbw.trans (hb1.mono (by omega))⟩
        · cases f2 : inB (K k) 0 1000
          · have HF : Hid ((allB n (tierD n F W K) && allB n (fitD wi F W)) = false) := by show _ = _; rw [allB_false_of _ _ k hlt (by simp [tierD, f2])]; rfl
            go_wp2_with (first | (go_at_call 25; refine (in_any _ _ _ _).mono ?_; rintro e w' ⟨rfl, rfl⟩) | (go_at_call 26; refine (comes_any s le la wi ke qu _ n cap F W K k hlt hn _ (hta.below ((Below.refl _ _).alloc (Nat.le_refl _) _))).mono ?_; rintro e w1 ⟨rfl, hb0⟩; have hb1 : Below wr.heap.size wr w1 := ((Below.refl _ _).alloc (Nat.le_refl _) _).trans (hb0.mono (by simp)); have hx : ∀ o, w1.cell? ⟨wr.heap.size, o, none⟩ = _ := (fun o => (hb0.cell (p := ⟨wr.heap.size, o, none⟩) (by simp)).trans (cell_at _ _ _ _ _ _ rfl)); have x1 := hx 1; have x2 := hx 2; clear hx hb0))
            go_ret
            exact ⟨ret_int (codeOf_false HF.out).symm, hbw.trans (hb1.mono (by omega))⟩
          · have HF : Hid (allB (k + 1) (tierD n F W K) = true) := by
              show _ = _
              rw [allB_succ, HA.out]; simp [tierD, f0, f1, f2]
            go_wp2_with (first | (go_at_call 25; refine (in_any _ _ _ _).mono ?_; rintro e w' ⟨rfl, rfl⟩) | (go_at_call 26; refine (comes_any s le la wi ke qu _ n cap F W K k hlt hn _ (hta.below ((Below.refl _ _).alloc (Nat.le_refl _) _))).mono ?_; rintro e w1 ⟨rfl, hb0⟩; have hb1 : Below wr.heap.size wr w1 := ((Below.refl _ _).alloc (Nat.le_refl _) _).trans (hb0.mono (by simp)); have hx : ∀ o, w1.cell? ⟨wr.heap.size, o, none⟩ = _ := (fun o => (hb0.cell (p := ⟨wr.heap.size, o, none⟩) (by simp)).trans (cell_at _ _ _ _ _ _ rfl)); have x1 := hx 1; have x2 := hx 2; clear hx hb0))
            go_roundw
            case rel => exact ⟨k + 1, by omega, by go_num, HF.out, hb.trans (hb1.mono (by omega))⟩
            case measure => simp [intOf]; omega
    · have e : k = n := by omega
      subst e
      have hW : ∀ i, i < k → 1 ≤ W i ∧ W i ≤ 1000 := fun i hi => by
        have := (allB_iff _ _).1 HA.out i hi; simp only [tierD, Bool.and_eq_true, inB_iff] at this; omega
      have hF : ∀ i, i < k → -1 ≤ F i ∧ F i < k := fun i hi => by
        have := (allB_iff _ _).1 HA.out i hi; simp only [tierD, Bool.and_eq_true] at this; exact range_of_looks k F i hi this.1.1
      have HA2 : Hid (allB k (tierD k F W K) = true) := HA
      clear HA
      go_wp2
      go_loopw [2, 15, 16] (fun _ y _ wr => ∃ (j : Nat), j ≤ k ∧ y = .int .i64 j ∧ allB j (fitD wi F W) = true ∧ Below (w.heap.size + 1) (w.alloc (.cells #[.int .i64 s, .int .i64 le, .int .i64 la, .int .i64 wi, .int .i64 ke, .int .i64 qu, .slice a k cap] 35)) wr) (fun _ y _ _ => k - (intOf y).toNat)
      case atStart => exact ⟨0, Nat.zero_le _, rfl, allB_zero _, hb⟩
      case round =>
        clear hb hbw hsz c0 c1 c2 c3 c4 c5 c6
        obtain ⟨j, hj, rfl, ha, hb⟩ := hrel
        have HA : Hid (allB j (fitD wi F W) = true) := ha
        clear ha
        have hbw : Below w.heap.size w wr := hB1.trans (hb.mono (by omega))
        have hsz : w.heap.size < wr.heap.size := by have := hb.size; simp at this; omega
        obtain ⟨_, c0, c1, c2, c3, c4, c5, c6⟩ := (CF.made w 35 (0, 0) s le la wi ke qu a k cap).below hb (by omega)
        by_cases hlt : j < k
        · have hta := h.below hbw
          obtain ⟨b, off, rfl, hbz, hc⟩ := h.below hbw (by omega)
          obtain ⟨h1, h2, h3⟩ := hc j hlt
          have hkn : (j : Int) < k := by omega
          have hf := hF j hlt
          clear hc
          have hwb : 1 ≤ widthOf wi W (F j) ∧ widthOf wi W (F j) ≤ 1000 := by
            unfold widthOf
            by_cases e : F j = -1
            · rw [if_pos e]; omega
            · rw [if_neg e]; exact hW _ (by omega)
          obtain ⟨hwb1, hwb2⟩ := hwb
          have hwk := hW j hlt
          by_cases g1 : W j % widthOf wi W (F j) = 0
          · have hq : (W j % widthOf wi W (F j) != 0) = false := by simp [g1]
            have HF : Hid (allB (j + 1) (fitD wi F W) = true) := by
              show _ = _
              rw [allB_succ, HA.out]; simp [fitD, g1]
            clear g1
            have hne : Nonempty (Later wr.heap.size wr) := Later.some _ _
            have hlc := fun (u : Later wr.heap.size wr) b o h => u.cell b o h
            go_wp2
            refine wp_region_later wr.heap.size (by kernel_rfl) (by kernel_rfl) ?_
            repeat (go_big_quiet_step ((go_at_call 27; exact Calls.later (Nat.le_refl _) (Width_any s le la wi ke qu _ k cap F W K _ hf.1 hf.2 hn _ (hta.below (Subtype.property _))))))
            refine wpQuiet_nil ?_
            rintro ⟨w1, hb1⟩
            clear hlc hne
            obtain ⟨hcc, _⟩ := bcell hb1
            have d6 : w1.cell? ⟨w.heap.size, 6, none⟩ = _ := (hcc _ _ hsz).trans c6
            have d2 : w1.cell? ⟨b, off + j * 3 + 1, none⟩ = _ := (hcc _ _ hbz).trans h2
            clear hcc
            dsimp only
            go_wp2
            go_roundw
            case rel => exact ⟨j + 1, by omega, by go_num, HF.out, hb.trans (hb1.mono (by omega))⟩
            case measure => simp [intOf]; omega
          · have hq : (W j % widthOf wi W (F j) != 0) = true := by simp [g1]
            have HF : Hid ((allB k (tierD k F W K) && allB k (fitD wi F W)) = false) := by show _ = _; rw [allB_false_of k (fitD wi F W) j hlt (by simp [fitD, g1])]; simp
            clear g1
            have hne : Nonempty (Later wr.heap.size wr) := Later.some _ _
            have hlc := fun (u : Later wr.heap.size wr) b o h => u.cell b o h
            go_wp2
            refine wp_region_later wr.heap.size (by kernel_rfl) (by kernel_rfl) ?_
            repeat (go_big_quiet_step ((go_at_call 27; exact Calls.later (Nat.le_refl _) (Width_any s le la wi ke qu _ k cap F W K _ hf.1 hf.2 hn _ (hta.below (Subtype.property _))))))
            refine wpQuiet_nil ?_
            rintro ⟨w1, hb1⟩
            clear hlc hne
            obtain ⟨hcc, _⟩ := bcell hb1
            have d6 : w1.cell? ⟨w.heap.size, 6, none⟩ = _ := (hcc _ _ hsz).trans c6
            have d2 : w1.cell? ⟨b, off + j * 3 + 1, none⟩ = _ := (hcc _ _ hbz).trans h2
            clear hcc
            dsimp only
            go_wp2
            go_ret
            exact ⟨ret_int (codeOf_false HF.out).symm, hbw.trans (hb1.mono (by omega))⟩
        · have e : j = k := by omega
          subst e
          have HT : Hid ((allB j (tierD j F W K) && allB j (fitD wi F W)) = true) := by show _ = _; rw [HA.out, HA2.out]; rfl
          go_wp2
          go_ret
          exact ⟨ret_int (codeOf_true HT.out).symm, hbw⟩

theorem refRight_any (s le la wi ke qu : Int) (a : Option Addr) (n cap : Nat) (F W K : Nat → Int) (w : World) (h : TS w a n F W K) :
    Calls Tryz.prog 13 #[.agg #[.int .i64 s, .int .i64 le, .int .i64 la, .int .i64 wi, .int .i64 ke, .int .i64 qu, .slice a n cap]] w fun e w' => e = .returned (.int .i64 (codeOf (rightB s le la wi ke qu n F W K))) ∧ Below w.heap.size w w' := by
  rw [right_same]
  cases hh : headB s le la wi ke qu n
  · rw [codeOf_false (by simp [rightD, hh])]
    exact refRight_head s le la wi ke qu a n cap w hh
  · have e : rightD s le la wi ke qu n F W K = (allB n (tierD n F W K) && allB n (fitD wi F W)) := by simp [rightD, hh]
    rw [e]
    exact refRight_tail s le la wi ke qu a n cap F W K w h hh
end Go.Proofs.YtgadceofpbfleaaGreat
