import Derived.Test.YtpbimdkclnekeaaGreatTConf2
import Derived.Test.YtpbimdkclnekeaaGreatTRef2

namespace Go.Proofs.YtpbimdkclnekeaaGreat
open Value (int)
open IntKind (i64)
open Go.RowKit
set_option maxHeartbeats 1000000 in
theorem layoutRight_any (s le la wi ke qu : Int) (a : Option Addr) (n cap : Nat) (F W K : Nat -> Int) (w : World) (h : TS w a n F W K) :
  Calls Tryz.prog 120 #[.agg #[int i64 s, int i64 le, int i64 la, int i64 wi, int i64 ke, int i64 qu, .slice a n cap]] w fun e w' => e = .returned (.bool (zcd s le la wi ke qu n F W K)) /\ Below w.heap.size w w' := by
 cases e0 : inB s 1 4
 ·have HF : Hid (zcd s le la wi ke qu n F W K = false) := by show _ = _; simp [zcd, e0]
  go_enter Tryz.func120, Tryz.ntmps120
  go_wp2_with (go_at_call 77; refine (zcp _ _ _ _).mono ?_; rintro e w' ⟨rfl, rfl⟩)
  go_ret
  exact ⟨zaq HF.out.symm, (Below.refl _ _).alloc (Nat.le_refl _) _⟩
 cases e1 : inB le 1 100
 ·have HF : Hid (zcd s le la wi ke qu n F W K = false) := by show _ = _; simp [zcd, e1]
  go_enter Tryz.func120, Tryz.ntmps120
  go_wp2_with (go_at_call 77; refine (zcp _ _ _ _).mono ?_; rintro e w' ⟨rfl, rfl⟩)
  go_ret
  exact ⟨zaq HF.out.symm, (Below.refl _ _).alloc (Nat.le_refl _) _⟩
 cases e2 : inB la 0 100
 ·have HF : Hid (zcd s le la wi ke qu n F W K = false) := by show _ = _; simp [zcd, e2]
  go_enter Tryz.func120, Tryz.ntmps120
  go_wp2_with (go_at_call 77; refine (zcp _ _ _ _).mono ?_; rintro e w' ⟨rfl, rfl⟩)
  go_ret
  exact ⟨zaq HF.out.symm, (Below.refl _ _).alloc (Nat.le_refl _) _⟩
 cases e3 : inB wi 1 50
 ·have HF : Hid (zcd s le la wi ke qu n F W K = false) := by show _ = _; simp [zcd, e3]
  go_enter Tryz.func120, Tryz.ntmps120
  go_wp2_with (go_at_call 77; refine (zcp _ _ _ _).mono ?_; rintro e w' ⟨rfl, rfl⟩)
  go_ret
  exact ⟨zaq HF.out.symm, (Below.refl _ _).alloc (Nat.le_refl _) _⟩
 cases e4 : inB ke 0 1000
 ·have HF : Hid (zcd s le la wi ke qu n F W K = false) := by show _ = _; simp [zcd, e4]
  go_enter Tryz.func120, Tryz.ntmps120
  go_wp2_with (go_at_call 77; refine (zcp _ _ _ _).mono ?_; rintro e w' ⟨rfl, rfl⟩)
  go_ret
  exact ⟨zaq HF.out.symm, (Below.refl _ _).alloc (Nat.le_refl _) _⟩
 cases e5 : inB qu 1 400
 ·have HF : Hid (zcd s le la wi ke qu n F W K = false) := by show _ = _; simp [zcd, e5]
  go_enter Tryz.func120, Tryz.ntmps120
  go_wp2_with (go_at_call 77; refine (zcp _ _ _ _).mono ?_; rintro e w' ⟨rfl, rfl⟩)
  go_ret
  exact ⟨zaq HF.out.symm, (Below.refl _ _).alloc (Nat.le_refl _) _⟩
 cases e6 : inB (n : Int) 1 4
 ·have HF : Hid (zcd s le la wi ke qu n F W K = false) := by show _ = _; simp [zcd, e6]
  go_enter Tryz.func120, Tryz.ntmps120
  go_wp2_with (go_at_call 77; refine (zcp _ _ _ _).mono ?_; rintro e w' ⟨rfl, rfl⟩)
  go_ret
  exact ⟨zaq HF.out.symm, (Below.refl _ _).alloc (Nat.le_refl _) _⟩
 have hn : n <= 4 := by rw [zdr] at e6; omega
 have hwi : 1 <= wi /\ wi <= 1000 := by rw [zdr] at e3; omega
 have h1 : TS (w.alloc (.cells #[int i64 s, int i64 le, int i64 la, int i64 wi, int i64 ke, int i64 qu, .slice a n cap] 27)) a n F W K := h.below ((Below.refl _ _).alloc (Nat.le_refl _) _)
 cases e7 : allB n (tierB n F W K)
 ·have HF : Hid (zcd s le la wi ke qu n F W K = false) := by show _ = _; simp [zcd, e7]
  go_enter Tryz.func120, Tryz.ntmps120
  go_wp2_with (first | (go_at_call 77; refine (zcp _ _ _ _).mono ?_; rintro e w' ⟨rfl, rfl⟩) | (go_at_call 171; refine (bounds_any _ n cap F W K hn _ h1).mono ?_; rintro e w' ⟨rfl, hb⟩))
  go_ret
  exact ⟨zaq HF.out.symm, ((Below.refl _ _).alloc (Nat.le_refl _) _).trans (hb.mono (by simp))⟩
 ·have hF : ∀ i, i < n -> -1 <= F i /\ F i < n := fun i hi => by
   have := (allB_iff _ _).1 e7 i hi; simp only [tierB, Bool.and_eq_true, zdr] at this; omega
  have hW : ∀ i, i < n -> 1 <= W i /\ W i <= 1000 := fun i hi => by
   have := (allB_iff _ _).1 e7 i hi; simp only [tierB, Bool.and_eq_true, zdr] at this; omega
  have HR : Hid (zcd s le la wi ke qu n F W K = allB n (fitB n wi F W)) := by show _ = _; simp [zcd, e0, e1, e2, e3, e4, e5, e6, e7]
  go_enter Tryz.func120, Tryz.ntmps120
  go_wp2_with (first | (go_at_call 77; refine (zcp _ _ _ _).mono ?_; rintro e w' ⟨rfl, rfl⟩) | (go_at_call 171; refine (bounds_any _ n cap F W K hn _ h1).mono ?_; rintro e w' ⟨rfl, hb⟩; obtain ⟨_, c0, c1, c2, c3, c4, c5, c6⟩ := (CF.made w 27 (0, 0) s le la wi ke qu a n cap).below hb (by simp)) | (go_at_call 172; refine (fit_any s le la wi ke qu _ n cap F W K hn hF hwi hW _ (h1.below hb)).mono ?_; rintro e w2 ⟨rfl, hb2⟩))
  go_ret
  exact ⟨zaq HR.out.symm, (((Below.refl _ _).alloc (Nat.le_refl _) _).trans (hb.mono (by simp))).trans (hb2.mono (by have := hb.size; simp at this; omega))⟩
set_option maxHeartbeats 1000000 in
theorem millRight_any (s le la wi ke qu : Int) (a : Option Addr) (n cap : Nat) (F W K : Nat -> Int) (w : World) (h : TS w a n F W K) :
  Calls Tryz.prog 61 #[.agg #[int i64 s, int i64 le, int i64 la, int i64 wi, int i64 ke, int i64 qu, .slice a n cap]] w fun e w' => e = .returned (int i64 (codeOf (zcd s le la wi ke qu n F W K))) /\ Below w.heap.size w w' := by
 have h1 : TS (w.alloc (.cells #[int i64 s, int i64 le, int i64 la, int i64 wi, int i64 ke, int i64 qu, .slice a n cap] 27)) a n F W K := h.below ((Below.refl _ _).alloc (Nat.le_refl _) _)
 cases e : zcd s le la wi ke qu n F W K
 all_goals
  go_enter Tryz.func61, Tryz.ntmps61
  go_wp2_with (go_at_call 120; refine (layoutRight_any s le la wi ke qu _ n cap F W K _ h1).mono ?_; rintro e w' ⟨rfl, hb⟩)
  go_ret
  exact ⟨rfl, ((Below.refl _ _).alloc (Nat.le_refl _) _).trans (hb.mono (by simp))⟩
set_option maxHeartbeats 400000 in
theorem num_any (x : Int) (w : World) : Calls Tryz.prog 98 #[int i64 x] w fun e w' => e = .returned (int i64 x) /\ w' = w := by
 go_enter Tryz.func98, Tryz.ntmps98
 go_wp2
 go_ret
 exact ⟨rfl, rfl⟩
end Go.Proofs.YtpbimdkclnekeaaGreat

namespace Go.Proofs.YtpbimdkclnekeaaGreat
open Value (int)
open IntKind (i64)
set_option linter.unusedVariables false
structure Ops where
 kd : Int
 on : Int
 a : Int
 b : Int
 c : Int
 v : Int
 te : Int
 tn : Int
 fs : Int
 fle : Int
 fla : Int
 fwi : Int
 fke : Int
 fqu : Int
 fa : Option Addr
 fn : Nat
 fcap : Nat
abbrev Ops.cells (o : Ops) : Array Value := #[int i64 o.kd, int i64 o.on, int i64 o.a, int i64 o.b, int i64 o.c, .int .i32 o.v, int i64 o.te, int i64 o.tn, int i64 o.fs, int i64 o.fle, int i64 o.fla, int i64 o.fwi, int i64 o.fke, int i64 o.fqu, .slice o.fa o.fn o.fcap]
end Go.Proofs.YtpbimdkclnekeaaGreat
