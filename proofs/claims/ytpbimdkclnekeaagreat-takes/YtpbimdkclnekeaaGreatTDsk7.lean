import Derived.Test.YtpbimdkclnekeaaGreatTDisk3

namespace Go.Proofs.YtpbimdkclnekeaaGreat
open Value (int)
open IntKind (i64)
open Go.RowKit
set_option linter.unusedVariables false
def newS : DS := ⟨[], -1, false⟩
set_option maxHeartbeats 400000 in
theorem new_any (B : Nat) (w : World) (hB : B <= w.heap.size) :
  Calls Tryz.prog 25 #[] w fun e w' => e = .returned (.pointer (some ⟨w.heap.size, 0, none⟩)) /\ zaw 119 185 B w' w.heap.size newS (.slice none 0 0) /\ Below w.heap.size w w' /\ w'.heap.size = w.heap.size + 1 := by
 go_enter Tryz.func25, Tryz.ntmps25
 go_wp2
 go_ret
 exact ⟨rfl, ⟨heap_alloc_last _ _, hB, World.ownsRow_nil _ _ _ _⟩, (Below.refl _ _).alloc (Nat.le_refl _) _, (by simp)⟩
theorem stopAt_stopped {S : DS} {n : Int} (h : zas S = true) : stopAt S n = S := by simp [stopAt, h]
theorem stopAt_neg {S : DS} {n : Int} (h : zas S = false) (hn : n < 0) : stopAt S n = { S with left := -1 } := by simp [stopAt, h, hn]
theorem stopAt_pos {S : DS} {n : Int} (h : zas S = false) (hn : ¬ n < 0) : stopAt S n = { S with left := n } := by simp [stopAt, h, hn]
set_option maxHeartbeats 400000 in
theorem stop_any (B : Nat) (p : Nat) (S : DS) (fs : Value) (n : Int) (w : World) (hD : zaw 119 185 B w p S fs) :
  Calls Tryz.prog 46 #[.pointer (some ⟨p, 0, none⟩), int i64 n] w fun e w' => e = .returned (.tuple #[]) /\ zaw 119 185 B w' p (stopAt S n) fs /\ zan (zen p fs) w w' := by
 cases hs : zas S
 ·by_cases hn : n < 0
  ·rw [stopAt_neg hs hn]
   by_cases hm : n = -1
   ·subst hm
    have HST := zab (zet B p S fs w hD)
    rw [hs] at HST
    clear hs
    go_enter Tryz.func46, Tryz.ntmps46
    go_wp2_with (go_at_call 47; refine (ud HST).mono ?_; rintro e w1 ⟨rfl, rfl⟩; have c1 := hD.c1; have c2 := hD.free 1)
    go_end0
    exact ⟨rfl, hD.setLeft (by decide) (-1)⟩
   ·have hm' : ¬ -1 <= n := by omega
    have HST := zab (zet B p S fs w hD)
    rw [hs] at HST
    clear hs
    go_enter Tryz.func46, Tryz.ntmps46
    go_wp2_with (go_at_call 47; refine (ud HST).mono ?_; rintro e w1 ⟨rfl, rfl⟩; have c1 := hD.c1; have c2 := hD.free 1)
    go_end0
    exact ⟨rfl, hD.setLeft (by decide) (-1)⟩
  ·rw [stopAt_pos hs hn]
   have hm' : -1 <= n := by omega
   have HST := zab (zet B p S fs w hD)
   rw [hs] at HST
   clear hs
   go_enter Tryz.func46, Tryz.ntmps46
   go_wp2_with (go_at_call 47; refine (ud HST).mono ?_; rintro e w1 ⟨rfl, rfl⟩; have c1 := hD.c1; have c2 := hD.free 1)
   go_end0
   exact ⟨rfl, hD.setLeft (by decide) n⟩
 ·rw [stopAt_stopped hs]
  have HST := zab (zet B p S fs w hD)
  rw [hs] at HST
  clear hs
  go_enter Tryz.func46, Tryz.ntmps46
  go_wp2_with (go_at_call 47; refine (ud HST).mono ?_; rintro e w1 ⟨rfl, rfl⟩; have c1 := hD.c1; have c2 := hD.free 1)
  go_end0
  exact ⟨rfl, hD, zan.refl _ _⟩
theorem dret_str {a b : ByteArray} (h : a = b) : Ending.returned (.string a) = .returned (.string b) := by rw [h]
def readD (S : DS) (nm : ByteArray) : ByteArray := match place S.files nm with | some i => (match S.files[i]? with | some f => f.data | none => ⟨#[]⟩) | none => ⟨#[]⟩
set_option maxHeartbeats 400000 in
theorem read_any (B : Nat) (p : Nat) (S : DS) (fs : Value) (nm : ByteArray) (w : World) (N : Nat) (hN : N <= 1099511627776) (hn : S.files.length <= N) (h : zaw 119 185 B w p S fs) :
  Calls Tryz.prog 123 #[.pointer (some ⟨p, 0, none⟩), .string nm] w fun e w' => e = .returned (.string (readD S nm)) /\ w' = w := by
 have HFI := zab (find_any B p S fs nm w N hN hn h)
 cases hpl : place S.files nm with
 | none =>
  have e1 : placeI S.files nm = -1 := by simp [placeI, hpl]
  have HR : Hid (readD S nm = ⟨#[]⟩) := by show _ = _; simp [readD, hpl]
  rw [e1] at HFI
  clear hpl e1
  go_enter Tryz.func123, Tryz.ntmps123
  go_wp2_with (go_at_call 174; refine (ud HFI).mono ?_; rintro e w1 ⟨rfl, rfl⟩)
  go_ret
  exact ⟨dret_str (ud HR).symm, rfl⟩
 | some i =>
  obtain ⟨f, hf, hil, _⟩ := place_some hpl
  have e1 : placeI S.files nm = i := by simp [placeI, hpl]
  have HR : Hid (readD S nm = f.data) := by show _ = _; simp [readD, hpl, hf]
  rw [e1] at HFI
  have hiz : (i : Int) < S.files.length := by omega
  have hi0 : ¬ (i : Int) < 0 := by omega
  obtain ⟨g, cap, rfl, -⟩ := h.files (by omega)
  have c0 := h.c0
  obtain ⟨x0, x1, x2, xf⟩ := h.at hf
  clear hpl e1 hf xf
  go_enter Tryz.func123, Tryz.ntmps123
  go_wp2_with (go_at_call 174; refine (ud HFI).mono ?_; rintro e w1 ⟨rfl, rfl⟩)
  go_ret
  exact ⟨dret_str (ud HR).symm, rfl⟩
end Go.Proofs.YtpbimdkclnekeaaGreat
