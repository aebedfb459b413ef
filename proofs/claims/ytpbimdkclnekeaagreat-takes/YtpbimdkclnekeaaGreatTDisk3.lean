import Derived.Test.YtpbimdkclnekeaaGreatTDisk2

namespace Go.Proofs.YtpbimdkclnekeaaGreat
open Go.RowKit
set_option linter.unusedVariables false
theorem zaw.drew {T e : TypeId} {B : Nat} {w : World} {p : Nat} {S : DS} {fs : Value} (h : zaw T e B w p S fs) : zaw T e B w.drew p S fs := h.later ((Below.refl _ _).drew)
def afterSync (S : DS) (name : ByteArray) : DS := if zas S then zav S else synced (zav S) name
theorem afterSync_some {S : DS} {nm : ByteArray} {i : Nat} {f : FS} (hs : zas S = false) (hpl : place S.files nm = some i) (hf : S.files[i]? = some f) : afterSync S nm = { zav S with files := (zav S).files.set i { f with safe := f.data.size } } := by
 simp [afterSync, hs, synced, zbe, hpl, hf]
theorem afterSync_none {S : DS} {nm : ByteArray} (hs : zas S = false) (hpl : place S.files nm = none) : afterSync S nm = zav S := by
 simp [afterSync, hs, synced, zbe, hpl]
theorem afterSync_stopped {S : DS} {nm : ByteArray} (hs : zas S = true) : afterSync S nm = zav S := by simp [afterSync, hs]
set_option maxHeartbeats 1000000 in
theorem sync_stopped (B : Nat) (p : Nat) (S : DS) (fs : Value) (nm : ByteArray) (w : World) (N : Nat) (hN : N <= 1099511627776) (hok : DOk S N) (hs : zas S = true) (h : zaw 119 185 B w p S fs) :
  Calls Tryz.prog 122 #[.pointer (some ⟨p, 0, none⟩), .string nm] w fun e w' => e = .returned (.bool false) /\ zaw 119 185 B w' p (zav S) fs /\ zan (zen p fs) w w' := by
 obtain ⟨hl1, hl2, hn, hall⟩ := hok
 have HST := zab (step_any B p S fs w ⟨hl1, hl2⟩ h)
 rw [hs] at HST
 have hlen : (zav S).files.length <= N := by rw [zbe]; exact hn
 clear hs hall
 go_enter Tryz.func122, Tryz.ntmps122
 go_wp2_with (first
  | (go_at_call 173; refine (ud HST).mono ?_; rintro e w1 ⟨rfl, h1, hk1⟩)
  | (go_at_call 174; refine (find_any B p (zav S) _ nm _ N hN hlen h1).mono ?_; rintro e w2 ⟨rfl, rfl⟩))
 go_ret
 exact ⟨rfl, h1, hk1⟩
set_option maxHeartbeats 1000000 in
theorem sync_none (B : Nat) (p : Nat) (S : DS) (fs : Value) (nm : ByteArray) (w : World) (N : Nat) (hN : N <= 1099511627776) (hok : DOk S N) (hs : zas S = false) (hpl : place S.files nm = none) (h : zaw 119 185 B w p S fs) :
  Calls Tryz.prog 122 #[.pointer (some ⟨p, 0, none⟩), .string nm] w fun e w' => e = .returned (.bool true) /\ zaw 119 185 B w' p (zav S) fs /\ zan (zen p fs) w w' := by
 obtain ⟨hl1, hl2, hn, hall⟩ := hok
 have HST := zab (step_any B p S fs w ⟨hl1, hl2⟩ h)
 rw [hs] at HST
 have HPI : Hid (placeI (zav S).files nm = -1) := by show _ = _; simp [placeI, zbe, hpl]
 have hlen : (zav S).files.length <= N := by rw [zbe]; exact hn
 clear hs hpl hall
 go_enter Tryz.func122, Tryz.ntmps122
 go_wp2_with (first
  | (go_at_call 173; refine (ud HST).mono ?_; rintro e w1 ⟨rfl, h1, hk1⟩)
  | (go_at_call 174; refine (find_any B p (zav S) _ nm _ N hN hlen h1).mono ?_; rintro e w2 ⟨rfl, rfl⟩; rw [ud HPI]))
 go_ret
 exact ⟨rfl, h1, hk1⟩
set_option maxHeartbeats 1000000 in
theorem sync_some (B : Nat) (p : Nat) (S : DS) (fs : Value) (nm : ByteArray) (w : World) (N : Nat) (hN : N <= 1099511627776) (hok : DOk S N) (hs : zas S = false) (i : Nat) (f : FS) (hpl : place S.files nm = some i) (hf : S.files[i]? = some f) (h : zaw 119 185 B w p S fs) :
  Calls Tryz.prog 122 #[.pointer (some ⟨p, 0, none⟩), .string nm] w fun e w' => e = .returned (.bool true) /\ zaw 119 185 B w' p { zav S with files := (zav S).files.set i { f with safe := f.data.size } } fs /\ zan (zen p fs) w w' := by
 obtain ⟨hl1, hl2, hn, hall⟩ := hok
 have HST := zab (step_any B p S fs w ⟨hl1, hl2⟩ h)
 rw [hs] at HST
 have hil : i < S.files.length := (List.getElem?_eq_some_iff.1 hf).1
 have hiz : (i : Int) < S.files.length := by omega
 have hi0 : (0 : Int) <= (i : Int) := by omega
 have HPI : Hid (placeI (zav S).files nm = i) := by show _ = _; simp [placeI, zbe, hpl]
 have hf1 : (zav S).files[i]? = some f := by rw [zbe]; exact hf
 have HF := zab hf1
 have hlen : (zav S).files.length <= N := by rw [zbe]; exact hn
 have HL : Hid (S.files.length = (zav S).files.length) := by show _ = _; rw [zbe]
 obtain ⟨g, cap, rfl, -⟩ := h.files (by omega)
 clear hs hpl hf1 hall
 go_enter Tryz.func122, Tryz.ntmps122
 go_wp2_with (first
  | (go_at_call 173; refine (ud HST).mono ?_; rintro e w1 ⟨rfl, h1, hk1⟩; have c0 := h1.c0; obtain ⟨x0, x1, x2, xf⟩ := h1.at (ud HF))
  | (go_at_call 174; refine (find_any B p (zav S) _ nm _ N hN hlen h1).mono ?_; rintro e w2 ⟨rfl, rfl⟩; rw [ud HPI]))
 go_region
 go_wp2
 go_ret
 obtain ⟨ha, hk⟩ := h1.setSafe (by decide) (by rw [ud HL]) (ud HF) f.data.size
 exact ⟨rfl, ha.drew, hk1.trans hk.drew (fun _ _ hh => hh)⟩
theorem sync_any (B : Nat) (p : Nat) (S : DS) (fs : Value) (nm : ByteArray) (w : World) (N : Nat) (hN : N <= 1099511627776) (hok : DOk S N) (h : zaw 119 185 B w p S fs) :
  Calls Tryz.prog 122 #[.pointer (some ⟨p, 0, none⟩), .string nm] w fun e w' => e = .returned (.bool (!zas S)) /\ zaw 119 185 B w' p (afterSync S nm) fs /\ zan (zen p fs) w w' := by
 cases hs : zas S
 ·cases hpl : place S.files nm with
  | none => rw [afterSync_none hs hpl]; exact sync_none B p S fs nm w N hN hok hs hpl h
  | some i =>
   obtain ⟨f, hf, _, _⟩ := place_some hpl
   rw [afterSync_some hs hpl hf]
   exact sync_some B p S fs nm w N hN hok hs i f hpl hf h
 ·rw [afterSync_stopped hs]
  exact sync_stopped B p S fs nm w N hN hok hs h
end Go.Proofs.YtpbimdkclnekeaaGreat
