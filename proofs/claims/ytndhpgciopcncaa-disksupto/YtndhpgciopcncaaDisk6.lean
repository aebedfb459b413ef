/- Walks: Rename of both disks. -/
import Derived.Test.YtndhpgciopcncaaDisk5
namespace Go.Proofs.Ytndhpgciopcncaa
open Go.RowKit
set_option linter.unusedVariables false

theorem owns_drew {w : World} {base size n : Nat} {e : TypeId} {v : Value} {xs : List Value} (h : w.ownsRow base e size v n xs) : w.drew.ownsRow base e size v n xs := h
theorem grown_drew {w w' : World} {row : Option Nat} (h : w.drew.grownBy w' row) : w.grownBy w' row := ⟨h.os, h.tape, h.output, h.size, h.block⟩
theorem heap_last_drew (w : World) (o : Obj) : (w.alloc o).drew.heap[w.heap.size]? = some o := heap_alloc_last w o
theorem size_drew (w : World) (o : Obj) : (w.alloc o).drew.heap.size = w.heap.size + 1 := size_first w o

def keepsR (old new : ByteArray) (f : FS) : Bool := !eqS f.name new && !eqS f.name old
theorem without_two (l : List FS) (old new : ByteArray) : without (without l old) new = l.filter (keepsR old new) := by
  unfold without; rw [List.filter_filter]; rfl
def afterRename (S : DS) (old new : ByteArray) : DS := if stoppedB S then stepped S else renamed (stepped S) old new
theorem afterRename_stopped {S : DS} {old new : ByteArray} (hs : stoppedB S = true) : afterRename S old new = stepped S := by simp [afterRename, hs]
theorem afterRename_none {S : DS} {old new : ByteArray} (hs : stoppedB S = false) (hpl : place S.files old = none) : afterRename S old new = stepped S := by simp [afterRename, hs, renamed, stepped_files, hpl]
theorem afterRename_same {S : DS} {old new : ByteArray} {i : Nat} (hs : stoppedB S = false) (hpl : place S.files old = some i) (he : eqS old new = true) : afterRename S old new = stepped S := by simp [afterRename, hs, renamed, stepped_files, hpl, he]
theorem afterRename_go {S : DS} {old new : ByteArray} {i : Nat} {f : FS} (hs : stoppedB S = false) (hpl : place S.files old = some i) (hf : S.files[i]? = some f) (he : eqS old new = false) : afterRename S old new = { stepped S with files := (stepped S).files.filter (keepsR old new) ++ [{ f with name := new }] } := by
  simp [afterRename, hs, renamed, stepped_files, hpl, hf, he, without_two]

set_option maxHeartbeats 1000000 in
theorem rename_stopped (B : Nat) (p : Nat) (S : DS) (fs : Value) (old new : ByteArray) (w : World) (N : Nat) (hN : N ≤ 1099511627776) (hok : DOk S N) (hs : stoppedB S = true) (h : DiskAt 58 64 B w p S fs) :
    Calls Try.prog 18 #[.pointer (some ⟨p, 0, none⟩), .string old, .string new] w fun e w' => e = .returned (.bool false) ∧ DiskAt 58 64 B w' p (stepped S) fs ∧ Kept (foot p fs) w w' := by
  obtain ⟨hl1, hl2, hn, hall⟩ := hok
  have HST := hide (step_any B p S fs w ⟨hl1, hl2⟩ h)
  rw [hs] at HST
  have hlen : (stepped S).files.length ≤ N := by rw [stepped_files]; exact hn
  clear hs hall
  go_enter Try.func18, Try.ntmps18
  go_wp2_with (first
    | (go_at_call 27; refine (unhide HST).mono ?_; rintro e w1 ⟨rfl, h1, hk1⟩)
    | (go_at_call 28; refine (find_any B p (stepped S) _ old _ N hN hlen h1).mono ?_; rintro e w2 ⟨rfl, rfl⟩))
  go_ret
  exact ⟨rfl, h1, hk1⟩

set_option maxHeartbeats 1000000 in
theorem rename_none (B : Nat) (p : Nat) (S : DS) (fs : Value) (old new : ByteArray) (w : World) (N : Nat) (hN : N ≤ 1099511627776) (hok : DOk S N) (hs : stoppedB S = false) (hpl : place S.files old = none) (h : DiskAt 58 64 B w p S fs) :
    Calls Try.prog 18 #[.pointer (some ⟨p, 0, none⟩), .string old, .string new] w fun e w' => e = .returned (.bool true) ∧ DiskAt 58 64 B w' p (stepped S) fs ∧ Kept (foot p fs) w w' := by
  obtain ⟨hl1, hl2, hn, hall⟩ := hok
  have HST := hide (step_any B p S fs w ⟨hl1, hl2⟩ h)
  rw [hs] at HST
  have hlen : (stepped S).files.length ≤ N := by rw [stepped_files]; exact hn
  have HPI : Hid (placeI (stepped S).files old = -1) := by show _ = _; simp [placeI, stepped_files, hpl]
  clear hpl
  clear hs hall
  go_enter Try.func18, Try.ntmps18
  go_wp2_with (first
    | (go_at_call 27; refine (unhide HST).mono ?_; rintro e w1 ⟨rfl, h1, hk1⟩)
    | (go_at_call 28; refine (find_any B p (stepped S) _ old _ N hN hlen h1).mono ?_; rintro e w2 ⟨rfl, rfl⟩; rw [unhide HPI]))
  go_ret
  exact ⟨rfl, h1, hk1⟩

set_option maxHeartbeats 1000000 in
theorem rename_same (B : Nat) (p : Nat) (S : DS) (fs : Value) (old new : ByteArray) (w : World) (N : Nat) (hN : N ≤ 1099511627776) (hok : DOk S N) (hs : stoppedB S = false) (i : Nat) (hpl : place S.files old = some i) (he : eqS old new = true) (h : DiskAt 58 64 B w p S fs) :
    Calls Try.prog 18 #[.pointer (some ⟨p, 0, none⟩), .string old, .string new] w fun e w' => e = .returned (.bool true) ∧ DiskAt 58 64 B w' p (stepped S) fs ∧ Kept (foot p fs) w w' := by
  obtain ⟨hl1, hl2, hn, hall⟩ := hok
  have HST := hide (step_any B p S fs w ⟨hl1, hl2⟩ h)
  rw [hs] at HST
  have hlen : (stepped S).files.length ≤ N := by rw [stepped_files]; exact hn
  have HPI : Hid (placeI (stepped S).files old = i) := by show _ = _; simp [placeI, stepped_files, hpl]
  have he' : (old.toList == new.toList) = true := he
  have hi0 : ¬ (i : Int) < 0 := by omega
  clear hpl he
  clear hs hall
  go_enter Try.func18, Try.ntmps18
  go_wp2_with (first
    | (go_at_call 27; refine (unhide HST).mono ?_; rintro e w1 ⟨rfl, h1, hk1⟩)
    | (go_at_call 28; refine (find_any B p (stepped S) _ old _ N hN hlen h1).mono ?_; rintro e w2 ⟨rfl, rfl⟩; rw [unhide HPI]))
  go_ret
  exact ⟨rfl, h1, hk1⟩

set_option maxHeartbeats 1000000 in
theorem rrename_stopped (B : Nat) (p : Nat) (S : DS) (fs : Value) (old new : ByteArray) (w : World) (N : Nat) (hN : N ≤ 1099511627776) (hok : DOk S N) (hs : stoppedB S = true) (h : DiskAt 61 66 B w p S fs) :
    Calls Try.prog 19 #[.pointer (some ⟨p, 0, none⟩), .string old, .string new] w fun e w' => e = .returned (.bool false) ∧ DiskAt 61 66 B w' p (stepped S) fs ∧ Kept (foot p fs) w w' := by
  obtain ⟨hl1, hl2, hn, hall⟩ := hok
  have HST := hide (rstep_any B p S fs w ⟨hl1, hl2⟩ h)
  rw [hs] at HST
  have hlen : (stepped S).files.length ≤ N := by rw [stepped_files]; exact hn
  clear hs hall
  go_enter Try.func19, Try.ntmps19
  go_wp2_with (first
    | (go_at_call 29; refine (unhide HST).mono ?_; rintro e w1 ⟨rfl, h1, hk1⟩)
    | (go_at_call 30; refine (file_any B p (stepped S) _ old _ N hN hlen h1).mono ?_; rintro e w2 ⟨rfl, rfl⟩))
  go_ret
  exact ⟨rfl, h1, hk1⟩

set_option maxHeartbeats 1000000 in
theorem rrename_none (B : Nat) (p : Nat) (S : DS) (fs : Value) (old new : ByteArray) (w : World) (N : Nat) (hN : N ≤ 1099511627776) (hok : DOk S N) (hs : stoppedB S = false) (hpl : place S.files old = none) (h : DiskAt 61 66 B w p S fs) :
    Calls Try.prog 19 #[.pointer (some ⟨p, 0, none⟩), .string old, .string new] w fun e w' => e = .returned (.bool true) ∧ DiskAt 61 66 B w' p (stepped S) fs ∧ Kept (foot p fs) w w' := by
  obtain ⟨hl1, hl2, hn, hall⟩ := hok
  have HST := hide (rstep_any B p S fs w ⟨hl1, hl2⟩ h)
  rw [hs] at HST
  have hlen : (stepped S).files.length ≤ N := by rw [stepped_files]; exact hn
  have HPI : Hid (placeI (stepped S).files old = -1) := by show _ = _; simp [placeI, stepped_files, hpl]
  clear hpl
  clear hs hall
  go_enter Try.func19, Try.ntmps19
  go_wp2_with (first
    | (go_at_call 29; refine (unhide HST).mono ?_; rintro e w1 ⟨rfl, h1, hk1⟩)
    | (go_at_call 30; refine (file_any B p (stepped S) _ old _ N hN hlen h1).mono ?_; rintro e w2 ⟨rfl, rfl⟩; rw [unhide HPI]))
  go_ret
  exact ⟨rfl, h1, hk1⟩

set_option maxHeartbeats 1000000 in
theorem rrename_same (B : Nat) (p : Nat) (S : DS) (fs : Value) (old new : ByteArray) (w : World) (N : Nat) (hN : N ≤ 1099511627776) (hok : DOk S N) (hs : stoppedB S = false) (i : Nat) (hpl : place S.files old = some i) (he : eqS old new = true) (h : DiskAt 61 66 B w p S fs) :
    Calls Try.prog 19 #[.pointer (some ⟨p, 0, none⟩), .string old, .string new] w fun e w' => e = .returned (.bool true) ∧ DiskAt 61 66 B w' p (stepped S) fs ∧ Kept (foot p fs) w w' := by
  obtain ⟨hl1, hl2, hn, hall⟩ := hok
  have HST := hide (rstep_any B p S fs w ⟨hl1, hl2⟩ h)
  rw [hs] at HST
  have hlen : (stepped S).files.length ≤ N := by rw [stepped_files]; exact hn
  have HPI : Hid (placeI (stepped S).files old = i) := by show _ = _; simp [placeI, stepped_files, hpl]
  have he' : (old.toList == new.toList) = true := he
  have hi0 : ¬ (i : Int) < 0 := by omega
  clear hpl he
  clear hs hall
  go_enter Try.func19, Try.ntmps19
  go_wp2_with (first
    | (go_at_call 29; refine (unhide HST).mono ?_; rintro e w1 ⟨rfl, h1, hk1⟩)
    | (go_at_call 30; refine (file_any B p (stepped S) _ old _ N hN hlen h1).mono ?_; rintro e w2 ⟨rfl, rfl⟩; rw [unhide HPI]))
  go_ret
  exact ⟨rfl, h1, hk1⟩

set_option maxHeartbeats 2000000 in
theorem rename_go (B : Nat) (p : Nat) (S : DS) (fs : Value) (old new : ByteArray) (w : World) (N : Nat) (hN : N ≤ 1099511627776) (hok : DOk S N) (hB : B ≤ w.heap.size) (hs : stoppedB S = false) (i : Nat) (f : FS) (hpl : place S.files old = some i) (hf : S.files[i]? = some f) (he : eqS old new = false) (h : DiskAt 58 64 B w p S fs) :
    Calls Try.prog 18 #[.pointer (some ⟨p, 0, none⟩), .string old, .string new] w fun e w' => e = .returned (.bool true) ∧ ∃ fs', DiskAt 58 64 B w' p { stepped S with files := (stepped S).files.filter (keepsR old new) ++ [{ f with name := new }] } fs' ∧ Kept (foot p fs) w w' ∧ ∀ k, fs'.ownBlock = some k → fs.ownBlock = some k ∨ w.heap.size ≤ k := by
  obtain ⟨hl1, hl2, hn, hall⟩ := hok
  have HST := hide (step_any B p S fs w ⟨hl1, hl2⟩ h)
  rw [hs] at HST
  have hil : i < S.files.length := (List.getElem?_eq_some_iff.1 hf).1
  have hiz : (i : Int) < S.files.length := by omega
  have hi0 : ¬ (i : Int) < 0 := by omega
  have hi1 : decide ((i : Int) < 0) = false := by simp
  have he' : (old.toList == new.toList) = false := he
  have HPI : Hid (placeI (stepped S).files old = i) := by show _ = _; simp [placeI, stepped_files, hpl]
  have hf1 : (stepped S).files[i]? = some f := by rw [stepped_files]; exact hf
  have HF := hide hf1
  have hlen : (stepped S).files.length ≤ N := by rw [stepped_files]; exact hn
  have HL : Hid ((stepped S).files.length = S.files.length) := by show _ = _; rw [stepped_files]
  obtain ⟨g, cap, rfl, -⟩ := h.files (by omega)
  clear hs hpl hf1 hall he h hf
  go_enter Try.func18, Try.ntmps18
  go_wp2_with (first
    | (go_at_call 27; refine (unhide HST).mono ?_; rintro e w0 ⟨rfl, h0, hk0⟩)
    | (go_at_call 28; refine (find_any B p (stepped S) _ old _ N hN hlen h0).mono ?_; rintro e w1 ⟨rfl, rfl⟩; rw [unhide HPI]; have c0 := h0.c0; obtain ⟨x0, x1, x2, xf⟩ := h0.at (unhide HF); clear xf; have hp1 := h0.lt))
  have hB1 : Below w1.heap.size w1 (w1.alloc (.cells #[.string new, .string f.data, .int .i64 f.safe] 64)) := (Below.refl _ _).alloc (Nat.le_refl _) _
  go_loopw [9, 11, 39] (fun v _ y wr => ∃ (k : Nat), k ≤ S.files.length ∧ y = .int .i64 k ∧ wr.ownsRow (w1.heap.size + 1) 64 3 v (keptOf (keepsR old new) (stepped S).files k).length (fileCells (keptOf (keepsR old new) (stepped S).files k)) ∧ Below (w1.heap.size + 1) (w1.alloc (.cells #[.string new, .string f.data, .int .i64 f.safe] 64)) wr) (fun _ _ y _ => S.files.length - (intOf y).toNat)
  case atStart => exact ⟨0, Nat.zero_le _, rfl, by rw [keptOf_zero]; exact owns_nil _ _ _ _, Below.refl _ _⟩
  case round =>
    clear c0 x0 x1 x2
    obtain ⟨k, hk, rfl, hv, hb⟩ := hrel
    have hkl := keptOf_length (keepsR old new) (stepped S).files k
    have hbw : Below w1.heap.size w1 wr := hB1.trans (hb.mono (by omega))
    have h2 := h0.later hbw
    have hbs : w1.heap.size + 1 ≤ wr.heap.size := by have := hb.size; rw [size_first] at this; exact this
    by_cases hlt : k < S.files.length
    · obtain ⟨f2, hf2⟩ := get_of_lt (l := (stepped S).files) (k := k) (by rw [unhide HL]; exact hlt)
      obtain ⟨x0, x1, x2, xf⟩ := h2.at hf2
      have HF2 := hide hf2
      have hkn : (k : Int) < S.files.length := by omega
      clear hf2 xf
      cases he1 : eqS f2.name old
      · cases he2 : eqS f2.name new
        · have he1' : (f2.name.toList == old.toList) = false := he1
          have he2' : (f2.name.toList == new.toList) = false := he2
          have HK := hide (keptOf_yes (p := keepsR old new) (unhide HF2) (by simp [keepsR, he1, he2]))
          clear he1 he2
          go_wp2_with (first
            | (at_builtin; refine push_file rfl _ _ rfl (w1.heap.size + 1) _ (keptOf (keepsR old new) (stepped S).files k) f2 rfl ((hv.alloc _).alloc _) (wr.heap.size + 1) rfl (heap_second _ _ _) ?hll ?hbb ?_; (case hll => omega); (case hbb => (rw [size_second]; omega)); intro g2 cap2 w3 hown hold hgrow hat hlt3)
            | fail)
          have hb3 : Below (w1.heap.size + 1) (w1.alloc (.cells #[.string new, .string f.data, .int .i64 f.safe] 64)) w3 := ((hb.alloc (by omega) _).alloc (by rw [size_first]; omega) _).grown hgrow (by rw [size_second]; omega) (fun k hk => (hv.lt k hk).1)
          exact ⟨⟨k + 1, by omega, by go_num, by rw [unhide HK]; exact hown, hb3⟩, by simp [intOf]; omega⟩
        · have he1' : (f2.name.toList == old.toList) = false := he1
          have he2' : (f2.name.toList == new.toList) = true := he2
          have HK := hide (keptOf_no (p := keepsR old new) (unhide HF2) (by simp [keepsR, he1, he2]))
          clear he1 he2
          go_wp2
          go_roundw
          case rel => exact ⟨k + 1, by omega, by go_num, by rw [unhide HK]; exact hv.alloc _, hb.alloc (by omega) _⟩
          case measure => simp [intOf]; omega
      · have he1' : (f2.name.toList == old.toList) = true := he1
        have HK := hide (keptOf_no (p := keepsR old new) (unhide HF2) (by simp [keepsR, he1]))
        clear he1
        go_wp2
        go_roundw
        case rel => exact ⟨k + 1, by omega, by go_num, by rw [unhide HK]; exact hv.alloc _, hb.alloc (by omega) _⟩
        case measure => simp [intOf]; omega
    · have e : k = (stepped S).files.length := by rw [unhide HL]; omega
      have hrow := owns_base hv (show B ≤ w1.heap.size + 1 by have := hk0.size; omega)
      have hvl := hv.lt
      have hll : ((stepped S).files.filter (keepsR old new)).length ≤ N := by have := List.length_filter_le (keepsR old new) (stepped S).files; omega
      rw [e, keptOf_all] at hv
      have c0 := h2.c0
      have hpw := h2.lt
      have hfr := h2.free 0
      have y0 : wr.cell? ⟨w1.heap.size, 0, none⟩ = some (.string new) := (hb.cell (p := ⟨w1.heap.size, 0, none⟩) (show w1.heap.size < _ by omega)).trans (by rw [World.cell?_alloc_mark]; rfl)
      have y1 : wr.cell? ⟨w1.heap.size, 1, none⟩ = some (.string f.data) := (hb.cell (p := ⟨w1.heap.size, 1, none⟩) (show w1.heap.size < _ by omega)).trans (by rw [World.cell?_alloc_mark]; rfl)
      have y2 : wr.cell? ⟨w1.heap.size, 2, none⟩ = some (.int .i64 f.safe) := (hb.cell (p := ⟨w1.heap.size, 2, none⟩) (show w1.heap.size < _ by omega)).trans (by rw [World.cell?_alloc_mark]; rfl)
      clear e hrow
      go_wp2_with (first
        | (at_builtin; refine push_file rfl _ _ rfl (w1.heap.size + 1) _ ((stepped S).files.filter (keepsR old new)) { f with name := new } rfl (hv.alloc _) wr.heap.size rfl (heap_alloc_last _ _) ?hll ?hbb ?_; (case hll => omega); (case hbb => (rw [size_first]; omega)); intro g3 cap3 w4 hown hold hgrow hat hlt3; have hb4 : Below (w1.heap.size + 1) wr w4 := ((Below.refl _ _).alloc (by omega) _).grown hgrow (by rw [size_first]; omega) (fun k hk => (hv.lt k hk).1); have d0 := (hb4.cell (p := ⟨p, 0, none⟩) (show p < _ by omega)).trans c0; have d1 := (hb4.frozen (p := ⟨p, 0, none⟩) (show p < _ by omega)).trans hfr)
        | fail)
      go_ret
      have hbw4 : Below w1.heap.size w1 w4 := hbw.trans (hb4.mono (by omega))
      obtain ⟨hD, hK⟩ := h0.setFiles (by decide) (Kept.of_below hbw4) (hbw4.block p h0.lt) (owns_base hown (show B ≤ w1.heap.size + 1 by have := hk0.size; omega))
      exact ⟨rfl, _, hD, hk0.trans hK (fun _ _ hh => hh), fun k hk => .inr (by have := (hown.lt k hk).1; have := hk0.size; omega)⟩

set_option maxHeartbeats 2000000 in
theorem rrename_go (B : Nat) (p : Nat) (S : DS) (fs : Value) (old new : ByteArray) (w : World) (N : Nat) (hN : N ≤ 1099511627776) (hok : DOk S N) (hB : B ≤ w.heap.size) (hs : stoppedB S = false) (i : Nat) (f : FS) (hpl : place S.files old = some i) (hf : S.files[i]? = some f) (he : eqS old new = false) (h : DiskAt 61 66 B w p S fs) :
    Calls Try.prog 19 #[.pointer (some ⟨p, 0, none⟩), .string old, .string new] w fun e w' => e = .returned (.bool true) ∧ ∃ fs', DiskAt 61 66 B w' p { stepped S with files := (stepped S).files.filter (keepsR old new) ++ [{ f with name := new }] } fs' ∧ Kept (foot p fs) w w' ∧ ∀ k, fs'.ownBlock = some k → fs.ownBlock = some k ∨ w.heap.size ≤ k := by
  obtain ⟨hl1, hl2, hn, hall⟩ := hok
  have HST := hide (rstep_any B p S fs w ⟨hl1, hl2⟩ h)
  rw [hs] at HST
  have hil : i < S.files.length := (List.getElem?_eq_some_iff.1 hf).1
  have hiz : (i : Int) < S.files.length := by omega
  have hi0 : ¬ (i : Int) < 0 := by omega
  have hi1 : decide ((i : Int) < 0) = false := by simp
  have he' : (old.toList == new.toList) = false := he
  have HPI : Hid (placeI (stepped S).files old = i) := by show _ = _; simp [placeI, stepped_files, hpl]
  have hf1 : (stepped S).files[i]? = some f := by rw [stepped_files]; exact hf
  have HF := hide hf1
  have hlen : (stepped S).files.length ≤ N := by rw [stepped_files]; exact hn
  have HL : Hid ((stepped S).files.length = S.files.length) := by show _ = _; rw [stepped_files]
  obtain ⟨g, cap, rfl, -⟩ := h.files (by omega)
  clear hs hpl hf1 hall he h hf
  go_enter Try.func19, Try.ntmps19
  go_wp2_with (first
    | (go_at_call 29; refine (unhide HST).mono ?_; rintro e w0 ⟨rfl, h0, hk0⟩)
    | (go_at_call 30; refine (file_any B p (stepped S) _ old _ N hN hlen h0).mono ?_; rintro e w1 ⟨rfl, rfl⟩; rw [unhide HPI]; have c0 := h0.c0; obtain ⟨x0, x1, x2, xf⟩ := h0.at (unhide HF); clear xf; have hp1 := h0.lt)
    | fail)
  have hB1 : Below w1.heap.size w1 (w1.alloc (.cells #[.string f.name, .string f.data, .int .i64 f.safe] 66)) := (Below.refl _ _).alloc (Nat.le_refl _) _
  have hs1 : (w1.alloc (.cells #[.string f.name, .string f.data, .int .i64 f.safe] 66)).heap.size = w1.heap.size + 1 := size_first _ _
  have hbk : (w1.alloc (.cells #[.string f.name, .string f.data, .int .i64 f.safe] 66)).heap[w1.heap.size]? = some (.cells #[.string f.name, .string f.data, .int .i64 f.safe] 66 (0, 0)) := heap_alloc_last _ _
  have h1 := h0.later hB1
  generalize hW : (w1.alloc (.cells #[.string f.name, .string f.data, .int .i64 f.safe] 66)) = W at h1 hB1 hs1 hbk ⊢
  have hB0 : B ≤ w1.heap.size := by have := hk0.size; omega
  clear hW c0 x0 x1 x2
  refine (without_any B p (stepped S) _ old _ N hN hlen h1).mono ?_
  rintro e w2 ⟨v, rfl, hv, hb2⟩
  obtain ⟨a5, cap5, rfl⟩ := owns_slice hv
  obtain ⟨hD2, hK2⟩ := h1.setFiles (by decide) (Kept.of_below hb2) (hb2.block p h1.lt) (owns_base hv (by omega))
  have d0 := (h1.later hb2).c0
  have d1 := (h1.later hb2).free 0
  have hl2' : (without (stepped S).files old).length ≤ N := by have := List.length_filter_le (fun f : FS => !eqS f.name old) (stepped S).files; unfold without; omega
  have hbk2 : w2.heap[w1.heap.size]? = _ := (hb2.block w1.heap.size (by omega)).trans hbk
  have hz2 := hb2.size
  have hbk2' : (w2.setCell ⟨p, 0, none⟩ (.slice a5 (without (stepped S).files old).length cap5)).heap[w1.heap.size]? = _ := (Below.heap_setCell _ _ _ _ (show w1.heap.size ≠ p by omega)).trans hbk2
  have hz2' : (w2.setCell ⟨p, 0, none⟩ (.slice a5 (without (stepped S).files old).length cap5)).heap.size = w2.heap.size := by simp [World.setCell]
  go_wp2_with fail
  generalize hW2 : (w2.setCell ⟨p, 0, none⟩ (.slice a5 (without (stepped S).files old).length cap5)) = W2 at hD2 hK2 hbk2' hz2' ⊢
  clear hW2 d0 d1 hbk2
  refine (without_any B p _ _ new _ N hN hl2' hD2).mono ?_
  rintro e w3 ⟨v3, rfl, hv3, hb3⟩
  obtain ⟨a6, cap6, rfl⟩ := owns_slice hv3
  have hz3 := hb3.size
  obtain ⟨hD3, hK3⟩ := hD2.setFiles (by decide) (Kept.of_below hb3) (hb3.block p hD2.lt) (owns_base hv3 (by omega))
  have d0 := (hD2.later hb3).c0
  have d1 := (hD2.later hb3).free 0
  have hbk3 : w3.heap[w1.heap.size]? = _ := (hb3.block w1.heap.size (by omega)).trans hbk2'
  have hbk3' : (w3.setCell ⟨p, 0, none⟩ (.slice a6 (without (without (stepped S).files old) new).length cap6)).heap[w1.heap.size]? = _ := (Below.heap_setCell _ _ _ _ (show w1.heap.size ≠ p by omega)).trans hbk3
  have y0 : (w3.setCell ⟨p, 0, none⟩ (.slice a6 (without (without (stepped S).files old) new).length cap6)).cell? ⟨w1.heap.size, 0, none⟩ = some (.string f.name) := by rw [dcell hbk3']; rfl
  have y1 : (w3.setCell ⟨p, 0, none⟩ (.slice a6 (without (without (stepped S).files old) new).length cap6)).frozen? ⟨w1.heap.size, 0, none⟩ = false := dfree hbk3' 0
  have hz3' : (w3.setCell ⟨p, 0, none⟩ (.slice a6 (without (without (stepped S).files old) new).length cap6)).heap.size = w3.heap.size := by simp [World.setCell]
  have hz4 : ((w3.setCell ⟨p, 0, none⟩ (.slice a6 (without (without (stepped S).files old) new).length cap6)).setCell ⟨w1.heap.size, 0, none⟩ (.string new)).heap.size = w3.heap.size := by simp [World.setCell]
  have hbk4 : ((w3.setCell ⟨p, 0, none⟩ (.slice a6 (without (without (stepped S).files old) new).length cap6)).setCell ⟨w1.heap.size, 0, none⟩ (.string new)).heap[w1.heap.size]? = some (.cells #[.string new, .string f.data, .int .i64 f.safe] 66 (0, 0)) := dset hbk3' _
  have hK4 : Kept (fun k => k = w1.heap.size) (w3.setCell ⟨p, 0, none⟩ (.slice a6 (without (without (stepped S).files old) new).length cap6)) ((w3.setCell ⟨p, 0, none⟩ (.slice a6 (without (without (stepped S).files old) new).length cap6)).setCell ⟨w1.heap.size, 0, none⟩ (.string new)) := (Kept.refl (fun k => k = w1.heap.size) _).setCell (fun _ => rfl) _
  have hD4 := hD3.kept hK4 (fun k hk hkw => by
    subst hkw
    rcases hk with hk | hk
    · omega
    · have := (hv3.lt _ hk).1; omega)
  have hKW : Kept (foot p (.slice (some ⟨g, 0, none⟩) S.files.length cap)) W W2 := hK2
  have hK34 : Kept (foot p (.slice (some ⟨g, 0, none⟩) S.files.length cap)) w1 ((w3.setCell ⟨p, 0, none⟩ (.slice a6 (without (without (stepped S).files old) new).length cap6)).setCell ⟨w1.heap.size, 0, none⟩ (.string new)) := by
    refine (Kept.of_below hB1).trans (g := fun k => foot p (.slice (some ⟨g, 0, none⟩) S.files.length cap) k ∨ w1.heap.size ≤ k) ?_ (fun i hi hh => hh.resolve_right (by omega))
    refine (hKW.mono (fun _ _ hh => .inl hh)).trans (g := fun k => k = p ∨ w1.heap.size ≤ k) ?_ (fun i hi hh => hh.elim (fun e => .inl (.inl e)) .inr)
    refine (hK3.mono (g := fun k => k = p ∨ w1.heap.size ≤ k) (fun k _ hk => ?_)).trans (hK4.mono (g := fun k => k = p ∨ w1.heap.size ≤ k) (fun k _ hk => .inr (by omega))) (fun _ _ hh => hh)
    rcases hk with hk | hk
    · exact .inl hk
    · exact .inr (by have := (hv.lt k hk).1; omega)
  have hvl3 := hv3.lt
  go_wp2_with fail
  generalize hW4 : ((w3.setCell ⟨p, 0, none⟩ (.slice a6 (without (without (stepped S).files old) new).length cap6)).setCell ⟨w1.heap.size, 0, none⟩ (.string new)) = W4 at hbk4 hD4 hK34 hz4 ⊢
  clear hW4 hK4 hD3 hK3 hbk3' y0 y1 hKW d0 d1 hbk3 hD2 hK2
  have z0 := hD4.c0
  have z1 := hD4.free 0
  have b0 : W4.cell? ⟨w1.heap.size, 0, none⟩ = some (.string new) := by rw [dcell hbk4]; rfl
  have b1 : W4.cell? ⟨w1.heap.size, 1, none⟩ = some (.string f.data) := by rw [dcell hbk4]; rfl
  have b2 : W4.cell? ⟨w1.heap.size, 2, none⟩ = some (.int .i64 f.safe) := by rw [dcell hbk4]; rfl
  have hll : (without (without (stepped S).files old) new).length ≤ 1099511627776 := by have := List.length_filter_le (fun f : FS => !eqS f.name new) (without (stepped S).files old); unfold without at *; omega
  have HROW := hide hD4.row
  have hpw := hD4.lt
  have hw1 : w1.heap.size < W4.heap.size := by omega
  have hBW : B ≤ W4.heap.size := by omega
  have za : ∀ o : Obj, (W4.alloc o).cell? ⟨p, 0, none⟩ = some (.slice a6 (without (without (stepped S).files old) new).length cap6) := fun o => (((Below.refl W4.heap.size W4).alloc (Nat.le_refl _) o).cell (p := ⟨p, 0, none⟩) hpw).trans z0
  go_region_law (refine step_push_dfile rfl (.tmp 52) (.tmp 54) rfl B _ (without (without (stepped S).files old) new) { f with name := new } (by simp [Act.eval]) (owns_drew ((unhide HROW).alloc _)) W4.heap.size (by simp [Act.eval]) (heap_last_drew _ _) hll ?hbb ?_; (case hbb => (rw [size_drew]; omega)); intro g3 cap3 w5 hown hgrow0 hat hlt3; have hgrow := grown_drew hgrow0; clear hgrow0; have hk5 : Kept (foot p (.slice a6 (without (without (stepped S).files old) new).length cap6)) W4 w5 := Kept.grown ((Kept.refl _ _).alloc _) hgrow (fun k hk _ => .inr hk); have hp5 : w5.heap[p]? = W4.heap[p]? := (hgrow.block p (by rw [size_first]; omega) (fun e => hD4.apart (by decide) e.symm)).trans (Below.heap_alloc _ _ _ hpw); have d0 := (World.cell?_of_block (a := ⟨p, 0, none⟩) hp5).trans z0; have d1 := (World.frozen?_of_block (a := ⟨p, 0, none⟩) hp5).trans z1)
  all_goals
    go_wp2
    go_ret
    obtain ⟨hD, hK⟩ := hD4.setFiles (by decide) hk5 hp5 hown
    refine ⟨rfl, .slice (some ⟨g3, 0, none⟩) ((without (without (stepped S).files old) new).length + 1) cap3, ?_, hk0.trans (hK34.trans hK (fun k hk hh => ?_)) (fun _ _ hh => hh), fun k hk => ?_⟩
    · rw [← without_two]; exact hD
    · rcases hh with hh | hh
      · exact .inl hh
      · have := (hvl3 k hh).1; omega
    · simp [Value.ownBlock] at hk
      subst hk
      right
      have := hk0.size
      rcases hat with hat | hat
      · have := (hvl3 _ hat).1; omega
      · rw [size_drew] at hat; omega

theorem rename_any (B : Nat) (p : Nat) (S : DS) (fs : Value) (old new : ByteArray) (w : World) (N : Nat) (hN : N ≤ 1099511627776) (hok : DOk S N) (hB : B ≤ w.heap.size) (h : DiskAt 58 64 B w p S fs) :
    Calls Try.prog 18 #[.pointer (some ⟨p, 0, none⟩), .string old, .string new] w fun e w' => e = .returned (.bool (!stoppedB S)) ∧ ∃ fs', DiskAt 58 64 B w' p (afterRename S old new) fs' ∧ Kept (foot p fs) w w' ∧ ∀ k, fs'.ownBlock = some k → fs.ownBlock = some k ∨ w.heap.size ≤ k := by
  cases hs : stoppedB S
  · cases hpl : place S.files old with
    | none =>
      rw [afterRename_none hs hpl]
      exact (rename_none B p S fs old new w N hN hok hs hpl h).mono fun e w' ⟨h1, h2, h3⟩ => ⟨h1, fs, h2, h3, fun k hk => .inl hk⟩
    | some i =>
      obtain ⟨f, hf, _, _⟩ := place_some hpl
      cases he : eqS old new
      · rw [afterRename_go hs hpl hf he]
        exact rename_go B p S fs old new w N hN hok hB hs i f hpl hf he h
      · rw [afterRename_same hs hpl he]
        exact (rename_same B p S fs old new w N hN hok hs i hpl he h).mono fun e w' ⟨h1, h2, h3⟩ => ⟨h1, fs, h2, h3, fun k hk => .inl hk⟩
  · rw [afterRename_stopped hs]
    exact (rename_stopped B p S fs old new w N hN hok hs h).mono fun e w' ⟨h1, h2, h3⟩ => ⟨h1, fs, h2, h3, fun k hk => .inl hk⟩

theorem rrename_any (B : Nat) (p : Nat) (S : DS) (fs : Value) (old new : ByteArray) (w : World) (N : Nat) (hN : N ≤ 1099511627776) (hok : DOk S N) (hB : B ≤ w.heap.size) (h : DiskAt 61 66 B w p S fs) :
    Calls Try.prog 19 #[.pointer (some ⟨p, 0, none⟩), .string old, .string new] w fun e w' => e = .returned (.bool (!stoppedB S)) ∧ ∃ fs', DiskAt 61 66 B w' p (afterRename S old new) fs' ∧ Kept (foot p fs) w w' ∧ ∀ k, fs'.ownBlock = some k → fs.ownBlock = some k ∨ w.heap.size ≤ k := by
  cases hs : stoppedB S
  · cases hpl : place S.files old with
    | none =>
      rw [afterRename_none hs hpl]
      exact (rrename_none B p S fs old new w N hN hok hs hpl h).mono fun e w' ⟨h1, h2, h3⟩ => ⟨h1, fs, h2, h3, fun k hk => .inl hk⟩
    | some i =>
      obtain ⟨f, hf, _, _⟩ := place_some hpl
      cases he : eqS old new
      · rw [afterRename_go hs hpl hf he]
        exact rrename_go B p S fs old new w N hN hok hB hs i f hpl hf he h
      · rw [afterRename_same hs hpl he]
        exact (rrename_same B p S fs old new w N hN hok hs i hpl he h).mono fun e w' ⟨h1, h2, h3⟩ => ⟨h1, fs, h2, h3, fun k hk => .inl hk⟩
  · rw [afterRename_stopped hs]
    exact (rrename_stopped B p S fs old new w N hN hok hs h).mono fun e w' ⟨h1, h2, h3⟩ => ⟨h1, fs, h2, h3, fun k hk => .inl hk⟩

end Go.Proofs.Ytndhpgciopcncaa
