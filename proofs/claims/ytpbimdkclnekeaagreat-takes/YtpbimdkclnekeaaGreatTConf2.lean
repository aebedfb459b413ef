import Derived.Test.YtpbimdkclnekeaaGreatTLater

namespace Go.Proofs.YtpbimdkclnekeaaGreat
open Value (int)
open IntKind (i64)
open Go.RowKit
set_option maxHeartbeats 1000000 in
theorem fit_any (s le la wi ke qu : Int) (a : Option Addr) (n cap : Nat) (F W K : Nat -> Int) (hn : n <= 4) (hF : ∀ i, i < n -> -1 <= F i /\ F i < n) (hwi : 1 <= wi /\ wi <= 1000) (hW : ∀ i, i < n -> 1 <= W i /\ W i <= 1000) (w : World) (h : TS w a n F W K) :
  Calls Tryz.prog 172 #[.agg #[int i64 s, int i64 le, int i64 la, int i64 wi, int i64 ke, int i64 qu, .slice a n cap]] w fun e w' => e = .returned (.bool (allB n (fitB n wi F W))) /\ Below w.heap.size w w' := by
 go_enter Tryz.func172, Tryz.ntmps172
 go_wp2
 go_loopw [2, 3, 4, 8] (fun _ _ _ y wr => ∃ (k : Nat), k <= n /\ y = int i64 k /\ allB k (fitB n wi F W) = true /\ Below (w.heap.size + 1) (w.alloc (.cells #[int i64 s, int i64 le, int i64 la, int i64 wi, int i64 ke, int i64 qu, .slice a n cap] 27)) wr) (fun _ _ _ y _ => n - (intOf y).toNat)
 case atStart => exact ⟨0, Nat.zero_le _, rfl, allB_zero _, Below.refl _ _⟩
 case round =>
  obtain ⟨k, hk, rfl, ha, hb⟩ := hrel
  have HA : Hid (allB k (fitB n wi F W) = true) := ha
  clear ha
  have hbw : Below w.heap.size w wr := ((Below.refl _ _).alloc (Nat.le_refl _) _).trans (hb.mono (by omega))
  have hsz : w.heap.size < wr.heap.size := by have := hb.size; simp at this; omega
  by_cases hlt : k < n
  ·have h' := h.below hbw
   have hcf := (CF.made w 27 (0, 0) s le la wi ke qu a n cap).below hb (by omega)
   obtain ⟨_, c0, c1, c2, c3, c4, c5, c6⟩ := hcf
   have hta := h'
   obtain ⟨b, off, rfl, hbz, hc⟩ := h' (by omega)
   obtain ⟨h1, h2, h3⟩ := hc k hlt
   have hkn : (k : Int) < n := by omega
   have hf := hF k hlt
   clear hc h h'
   have hwb : 1 <= zbr wi W (F k) /\ zbr wi W (F k) <= 1000 := by
    unfold zbr
    by_cases e : F k = -1
    ·rw [if_pos e]; omega
    ·rw [if_neg e]; exact hW _ (by omega)
   obtain ⟨hwb1, hwb2⟩ := hwb
   have hwk := hW k hlt
   by_cases e1 : W k % zbr wi W (F k) = 0
   ·have hq : (W k % zbr wi W (F k) != 0) = false := by simp [e1]
    cases e2 : down F n k
    ·have HF : Hid (allB n (fitB n wi F W) = false) := zcs _ _ k hlt (by simp [fitB, e2])
     clear e1
     have hne : Nonempty (zaf (wr.heap.size + 1) (wr.alloc (Obj.cells #[Value.int IntKind.i64 (F k), Value.int IntKind.i64 (W k), Value.int IntKind.i64 (K k)] 66))) := zaf.some _ _
     have hlc := fun (u : zaf (wr.heap.size + 1) (wr.alloc (Obj.cells #[Value.int IntKind.i64 (F k), Value.int IntKind.i64 (W k), Value.int IntKind.i64 (K k)] 66))) b o h => u.cell b o h
     go_wp2
     refine zad (wr.heap.size + 1) (by kernel_rfl) (by kernel_rfl) ?_
     repeat (go_big_quiet_step (first
      | (go_at_call 206; exact Calls.later (by simp) (width_any s le la wi ke qu _ n cap F W K _ hf.1 hf.2 hn _ (hta.below (((Below.refl _ _).alloc (Nat.le_refl _) _).trans (Below.mono (Subtype.property _) (by omega))))))
      | (go_at_call 207; exact Calls.later_same (comesToRaw_any _ n cap F W K k hlt hn hF _ (hta.below (((Below.refl _ _).alloc (Nat.le_refl _) _).trans (Below.mono (Subtype.property _) (by omega))))))))
     refine wpQuiet_nil ?_
     rintro ⟨w1, hb1⟩
     have hb2 : Below (wr.heap.size) wr w1 := ((Below.refl _ _).alloc (Nat.le_refl _) _).trans (hb1.mono (by omega))
     have hb3 : Below (w.heap.size + 1) wr w1 := hb2.mono (by omega)
     clear hlc hne
     dsimp only
     go_wp2
     go_ret
     exact ⟨zaq HF.out.symm, hbw.trans (hb3.mono (by omega))⟩
    ·have HF : Hid (allB (k + 1) (fitB n wi F W) = true) := by
      show _ = _
      rw [allB_succ, HA.out]; simp [fitB, e1, e2]
     clear e1
     have hne : Nonempty (zaf (wr.heap.size + 1) (wr.alloc (Obj.cells #[Value.int IntKind.i64 (F k), Value.int IntKind.i64 (W k), Value.int IntKind.i64 (K k)] 66))) := zaf.some _ _
     have hlc := fun (u : zaf (wr.heap.size + 1) (wr.alloc (Obj.cells #[Value.int IntKind.i64 (F k), Value.int IntKind.i64 (W k), Value.int IntKind.i64 (K k)] 66))) b o h => u.cell b o h
     go_wp2
     refine zad (wr.heap.size + 1) (by kernel_rfl) (by kernel_rfl) ?_
     repeat (go_big_quiet_step (first
      | (go_at_call 206; exact Calls.later (by simp) (width_any s le la wi ke qu _ n cap F W K _ hf.1 hf.2 hn _ (hta.below (((Below.refl _ _).alloc (Nat.le_refl _) _).trans (Below.mono (Subtype.property _) (by omega))))))
      | (go_at_call 207; exact Calls.later_same (comesToRaw_any _ n cap F W K k hlt hn hF _ (hta.below (((Below.refl _ _).alloc (Nat.le_refl _) _).trans (Below.mono (Subtype.property _) (by omega))))))))
     refine wpQuiet_nil ?_
     rintro ⟨w1, hb1⟩
     have hb2 : Below (wr.heap.size) wr w1 := ((Below.refl _ _).alloc (Nat.le_refl _) _).trans (hb1.mono (by omega))
     have hb3 : Below (w.heap.size + 1) wr w1 := hb2.mono (by omega)
     clear hlc hne
     dsimp only
     go_wp2
     go_roundw
     case rel => exact ⟨k + 1, by omega, by go_num, HF.out, hb.trans hb3⟩
     case measure => simp [intOf]; omega
   ·have hq : (W k % zbr wi W (F k) != 0) = true := by simp [e1]
    have HF : Hid (allB n (fitB n wi F W) = false) := zcs _ _ k hlt (by simp [fitB, e1])
    clear e1
    have hne : Nonempty (zaf (wr.heap.size + 1) (wr.alloc (Obj.cells #[Value.int IntKind.i64 (F k), Value.int IntKind.i64 (W k), Value.int IntKind.i64 (K k)] 66))) := zaf.some _ _
    have hlc := fun (u : zaf (wr.heap.size + 1) (wr.alloc (Obj.cells #[Value.int IntKind.i64 (F k), Value.int IntKind.i64 (W k), Value.int IntKind.i64 (K k)] 66))) b o h => u.cell b o h
    go_wp2
    refine zad (wr.heap.size + 1) (by kernel_rfl) (by kernel_rfl) ?_
    repeat (go_big_quiet_step (first
     | (go_at_call 206; exact Calls.later (by simp) (width_any s le la wi ke qu _ n cap F W K _ hf.1 hf.2 hn _ (hta.below (((Below.refl _ _).alloc (Nat.le_refl _) _).trans (Below.mono (Subtype.property _) (by omega))))))
     | (go_at_call 207; exact Calls.later_same (comesToRaw_any _ n cap F W K k hlt hn hF _ (hta.below (((Below.refl _ _).alloc (Nat.le_refl _) _).trans (Below.mono (Subtype.property _) (by omega))))))))
    refine wpQuiet_nil ?_
    rintro ⟨w1, hb1⟩
    have hb2 : Below (wr.heap.size) wr w1 := ((Below.refl _ _).alloc (Nat.le_refl _) _).trans (hb1.mono (by omega))
    have hb3 : Below (w.heap.size + 1) wr w1 := hb2.mono (by omega)
    clear hlc hne
    dsimp only
    go_wp2
    go_ret
    exact ⟨zaq HF.out.symm, hbw.trans (hb3.mono (by omega))⟩
  ·have e : k = n := by omega
   subst e
   go_wp2
   go_ret
   exact ⟨zaq HA.out.symm, hbw⟩
end Go.Proofs.YtpbimdkclnekeaaGreat
