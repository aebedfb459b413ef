/- Walks: the document's Append. -/
import Derived.Test.YtndhpgciopcncaaDisk2
namespace Go.Proofs.Ytndhpgciopcncaa
open Go.RowKit
set_option linter.unusedVariables false

theorem DiskAt.drew {T e : TypeId} {B : Nat} {w : World} {p : Nat} {S : DS} {fs : Value} (h : DiskAt T e B w p S fs) : DiskAt T e B w.drew p S fs := h.later ((Below.refl _ _).drew)

set_option maxHeartbeats 1000000 in
theorem rappend_stopped (B : Nat) (p : Nat) (S : DS) (fs : Value) (nm dt : ByteArray) (w : World) (hl1 : -1 ≤ S.left) (hl2 : S.left ≤ 9223372036854775807) (hs : stoppedB S = true) (h : DiskAt 61 66 B w p S fs) :
    Calls Try.prog 15 #[.pointer (some ⟨p, 0, none⟩), .string nm, .string dt] w fun e w' => e = .returned (.bool false) ∧ DiskAt 61 66 B w' p (stepped S) fs ∧ Kept (foot p fs) w w' := by
  have HST := hide (rstep_any B p S fs w ⟨hl1, hl2⟩ h)
  rw [hs] at HST
  clear hs
  go_enter Try.func15, Try.ntmps15
  go_wp2_with (go_at_call 29; refine (unhide HST).mono ?_; rintro e w1 ⟨rfl, h1, hk1⟩)
  go_ret
  exact ⟨rfl, h1, hk1⟩

set_option maxHeartbeats 1000000 in
theorem rappend_some (B : Nat) (p : Nat) (S : DS) (fs : Value) (nm dt : ByteArray) (w : World) (N : Nat) (hN : N ≤ 1099511627776) (hok : DOk S N) (hdt : dt.size ≤ 1099511627776) (hs : stoppedB S = false) (i : Nat) (f : FS) (hpl : place S.files nm = some i) (hf : S.files[i]? = some f) (h : DiskAt 61 66 B w p S fs) :
    Calls Try.prog 15 #[.pointer (some ⟨p, 0, none⟩), .string nm, .string dt] w fun e w' => e = .returned (.bool true) ∧ DiskAt 61 66 B w' p { stepped S with files := (stepped S).files.set i { f with data := f.data ++ dt } } fs ∧ Kept (foot p fs) w w' := by
  obtain ⟨hl1, hl2, hn, hall⟩ := hok
  have HST := hide (rstep_any B p S fs w ⟨hl1, hl2⟩ h)
  rw [hs] at HST
  have hil : i < S.files.length := (List.getElem?_eq_some_iff.1 hf).1
  have hiz : (i : Int) < S.files.length := by omega
  have hi0 : ¬ (i : Int) < 0 := by omega
  have hfd := (hall f (List.mem_of_getElem? hf)).2
  have hsum : f.data.size + dt.size ≤ 9223372036854775807 := by omega
  have hadd := fun wx => run_string_add_sum (P := Try.prog) (w := wx) f.data dt hsum
  have HPI : Hid (placeI (stepped S).files nm = i) := by show _ = _; simp [placeI, stepped_files, hpl]
  have hf1 : (stepped S).files[i]? = some f := by rw [stepped_files]; exact hf
  have HF := hide hf1
  have hlen : (stepped S).files.length ≤ N := by rw [stepped_files]; exact hn
  have HL : Hid (S.files.length = (stepped S).files.length) := by show _ = _; rw [stepped_files]
  obtain ⟨g, cap, rfl, -⟩ := h.files (by omega)
  clear hs hpl hf1 hall
  go_enter Try.func15, Try.ntmps15
  go_wp2_with (first
    | (go_at_call 29; refine (unhide HST).mono ?_; rintro e w1 ⟨rfl, h1, hk1⟩; have c0 := h1.c0; obtain ⟨x0, x1, x2, xf⟩ := h1.at (unhide HF))
    | (go_at_call 30; refine (file_any B p (stepped S) _ nm _ N hN hlen h1).mono ?_; rintro e w2 ⟨rfl, rfl⟩; rw [unhide HPI]))
  go_region
  go_wp2
  go_ret
  obtain ⟨ha, hk⟩ := h1.setData (by decide) (by rw [unhide HL]) (unhide HF) (f.data ++ dt)
  exact ⟨rfl, ha.drew, hk1.trans hk.drew (fun _ _ hh => hh)⟩

set_option maxHeartbeats 1000000 in
theorem rappend_none (B : Nat) (p : Nat) (S : DS) (fs : Value) (nm dt : ByteArray) (w : World) (N : Nat) (hN : N ≤ 1099511627776) (hok : DOk S N) (hB : B ≤ w.heap.size) (hs : stoppedB S = false) (hpl : place S.files nm = none) (h : DiskAt 61 66 B w p S fs) :
    Calls Try.prog 15 #[.pointer (some ⟨p, 0, none⟩), .string nm, .string dt] w fun e w' => e = .returned (.bool true) ∧ ∃ fs', DiskAt 61 66 B w' p { stepped S with files := (stepped S).files ++ [⟨nm, dt, 0⟩] } fs' ∧ Kept (foot p fs) w w' ∧ ∀ k, fs'.ownBlock = some k → fs.ownBlock = some k ∨ w.heap.size ≤ k := by
  obtain ⟨hl1, hl2, hn, hall⟩ := hok
  have HST := hide (rstep_any B p S fs w ⟨hl1, hl2⟩ h)
  rw [hs] at HST
  have HPI : Hid (placeI (stepped S).files nm = -1) := by show _ = _; simp [placeI, stepped_files, hpl]
  have hlen : (stepped S).files.length ≤ N := by rw [stepped_files]; exact hn
  have HL : Hid ((stepped S).files.length = S.files.length) := by show _ = _; rw [stepped_files]
  obtain ⟨a, cap0, rfl⟩ := slice_of h.row
  clear hs hpl hall h
  go_enter Try.func15, Try.ntmps15
  go_wp2_with (first
    | (at_builtin
       refine wpList_append_keep rfl _ _ 59 rfl B 66 _ 3 40 Try.underlying59 Try.infoDFile rfl (by decide) (.slice a S.files.length cap0) S.files.length (fileCells (stepped S).files) rfl ?hown ⟨w2.heap.size, 0, none⟩ 1 1 [.string nm, .string dt, .int .i64 0] rfl rfl ?hnews ?h1 (by decide) ?h63 ?hbytes ?hbase ?_
       case hown => (have := h1.row; rw [unhide HL] at this; exact this.alloc _)
       case hnews => exact World.news_of_block (heap_alloc_last _ _)
       case h1 => (intro u hu; simp at hu; rcases hu with rfl | rfl | rfl <;> rfl)
       case h63 => (simp only [maxLen]; omega)
       case hbytes => omega
       case hbase => (have := hk1.size; simp; omega)
       intro g cap w3 hown hold hgrow hat hlt
       have hp1 := h1.lt
       have hp3 : w3.heap[p]? = w2.heap[p]? := (hgrow.block p (by simp; omega) (fun e => h1.apart (by decide) e.symm)).trans (Below.heap_alloc _ _ _ hp1)
       have hk3 : Kept (foot p (.slice a S.files.length cap0)) w2 w3 := ((Kept.refl _ _).alloc _).grown hgrow (fun k hk _ => .inr hk)
       have hrow := pushed_row (f := ⟨nm, dt, 0⟩) (unhide HL).symm hown
       obtain ⟨hD, hK⟩ := h1.setFiles (by decide) hk3 hp3 hrow
       have e0 := hD.c0
       obtain ⟨e1, e2, e3, e4⟩ := hD.at (i := S.files.length) (f := ⟨nm, dt, 0⟩) (by simp [unhide HL])
       have d0 : w3.cell? ⟨p, 0, none⟩ = _ := (World.cell?_of_block (a := ⟨p, 0, none⟩) hp3).trans h1.c0
       have d1 : w3.frozen? ⟨p, 0, none⟩ = false := (World.frozen?_of_block (a := ⟨p, 0, none⟩) hp3).trans (h1.free 0))
    | (go_at_call 29; refine (unhide HST).mono ?_; rintro e w1 ⟨rfl, h1, hk1⟩; have c0 := h1.c0)
    | (go_at_call 30; refine (file_any B p (stepped S) _ nm _ N hN hlen h1).mono ?_; rintro e w2 ⟨rfl, rfl⟩; rw [unhide HPI]))
  go_ret
  refine ⟨rfl, .slice (some ⟨g, 0, none⟩) (S.files.length + 1) cap, hD, hk1.trans hK (fun _ _ hh => hh), fun k hk' => ?_⟩
  simp [Value.ownBlock] at hk'
  subst hk'
  rcases hat with hat | hat
  · exact .inl hat
  · right; have := hk1.size; simp at hat; omega

theorem rappend_any (B : Nat) (p : Nat) (S : DS) (fs : Value) (nm dt : ByteArray) (w : World) (N : Nat) (hN : N ≤ 1099511627776) (hok : DOk S N) (hdt : dt.size ≤ 1099511627776) (hB : B ≤ w.heap.size) (h : DiskAt 61 66 B w p S fs) :
    Calls Try.prog 15 #[.pointer (some ⟨p, 0, none⟩), .string nm, .string dt] w fun e w' => e = .returned (.bool (!stoppedB S)) ∧ ∃ fs', DiskAt 61 66 B w' p (afterAppend S nm dt) fs' ∧ Kept (foot p fs) w w' ∧ ∀ k, fs'.ownBlock = some k → fs.ownBlock = some k ∨ w.heap.size ≤ k := by
  cases hs : stoppedB S
  · cases hpl : place S.files nm with
    | none => rw [afterAppend_none hs hpl]; exact rappend_none B p S fs nm dt w N hN hok hB hs hpl h
    | some i =>
      obtain ⟨f, hf, _, _⟩ := place_some hpl
      rw [afterAppend_some hs hpl hf]
      exact (rappend_some B p S fs nm dt w N hN hok hdt hs i f hpl hf h).mono fun e w' ⟨h1, h2, h3⟩ => ⟨h1, fs, h2, h3, fun k hk => .inl hk⟩
  · rw [afterAppend_stopped hs]
    exact (rappend_stopped B p S fs nm dt w hok.1 hok.2.1 hs h).mono fun e w' ⟨h1, h2, h3⟩ => ⟨h1, fs, h2, h3, fun k hk => .inl hk⟩
def afterSync (S : DS) (name : ByteArray) : DS := if stoppedB S then stepped S else synced (stepped S) name
theorem afterSync_some {S : DS} {nm : ByteArray} {i : Nat} {f : FS} (hs : stoppedB S = false) (hpl : place S.files nm = some i) (hf : S.files[i]? = some f) : afterSync S nm = { stepped S with files := (stepped S).files.set i { f with safe := f.data.size } } := by
  simp [afterSync, hs, synced, stepped_files, hpl, hf]
theorem afterSync_none {S : DS} {nm : ByteArray} (hs : stoppedB S = false) (hpl : place S.files nm = none) : afterSync S nm = stepped S := by
  simp [afterSync, hs, synced, stepped_files, hpl]
theorem afterSync_stopped {S : DS} {nm : ByteArray} (hs : stoppedB S = true) : afterSync S nm = stepped S := by simp [afterSync, hs]

set_option maxHeartbeats 1000000 in
theorem sync_stopped (B : Nat) (p : Nat) (S : DS) (fs : Value) (nm : ByteArray) (w : World) (N : Nat) (hN : N ≤ 1099511627776) (hok : DOk S N) (hs : stoppedB S = true) (h : DiskAt 58 64 B w p S fs) :
    Calls Try.prog 16 #[.pointer (some ⟨p, 0, none⟩), .string nm] w fun e w' => e = .returned (.bool false) ∧ DiskAt 58 64 B w' p (stepped S) fs ∧ Kept (foot p fs) w w' := by
  obtain ⟨hl1, hl2, hn, hall⟩ := hok
  have HST := hide (step_any B p S fs w ⟨hl1, hl2⟩ h)
  rw [hs] at HST
  have hlen : (stepped S).files.length ≤ N := by rw [stepped_files]; exact hn
  clear hs hall
  go_enter Try.func16, Try.ntmps16
  go_wp2_with (first
    | (go_at_call 27; refine (unhide HST).mono ?_; rintro e w1 ⟨rfl, h1, hk1⟩)
    | (go_at_call 28; refine (find_any B p (stepped S) _ nm _ N hN hlen h1).mono ?_; rintro e w2 ⟨rfl, rfl⟩))
  go_ret
  exact ⟨rfl, h1, hk1⟩

set_option maxHeartbeats 1000000 in
theorem sync_none (B : Nat) (p : Nat) (S : DS) (fs : Value) (nm : ByteArray) (w : World) (N : Nat) (hN : N ≤ 1099511627776) (hok : DOk S N) (hs : stoppedB S = false) (hpl : place S.files nm = none) (h : DiskAt 58 64 B w p S fs) :
    Calls Try.prog 16 #[.pointer (some ⟨p, 0, none⟩), .string nm] w fun e w' => e = .returned (.bool true) ∧ DiskAt 58 64 B w' p (stepped S) fs ∧ Kept (foot p fs) w w' := by
  obtain ⟨hl1, hl2, hn, hall⟩ := hok
  have HST := hide (step_any B p S fs w ⟨hl1, hl2⟩ h)
  rw [hs] at HST
  have HPI : Hid (placeI (stepped S).files nm = -1) := by show _ = _; simp [placeI, stepped_files, hpl]
  have hlen : (stepped S).files.length ≤ N := by rw [stepped_files]; exact hn
  clear hs hpl hall
  go_enter Try.func16, Try.ntmps16
  go_wp2_with (first
    | (go_at_call 27; refine (unhide HST).mono ?_; rintro e w1 ⟨rfl, h1, hk1⟩)
    | (go_at_call 28; refine (find_any B p (stepped S) _ nm _ N hN hlen h1).mono ?_; rintro e w2 ⟨rfl, rfl⟩; rw [unhide HPI]))
  go_ret
  exact ⟨rfl, h1, hk1⟩

set_option maxHeartbeats 1000000 in
theorem sync_some (B : Nat) (p : Nat) (S : DS) (fs : Value) (nm : ByteArray) (w : World) (N : Nat) (hN : N ≤ 1099511627776) (hok : DOk S N) (hs : stoppedB S = false) (i : Nat) (f : FS) (hpl : place S.files nm = some i) (hf : S.files[i]? = some f) (h : DiskAt 58 64 B w p S fs) :
    Calls Try.prog 16 #[.pointer (some ⟨p, 0, none⟩), .string nm] w fun e w' => e = .returned (.bool true) ∧ DiskAt 58 64 B w' p { stepped S with files := (stepped S).files.set i { f with safe := f.data.size } } fs ∧ Kept (foot p fs) w w' := by
  obtain ⟨hl1, hl2, hn, hall⟩ := hok
  have HST := hide (step_any B p S fs w ⟨hl1, hl2⟩ h)
  rw [hs] at HST
  have hil : i < S.files.length := (List.getElem?_eq_some_iff.1 hf).1
  have hiz : (i : Int) < S.files.length := by omega
  have hi0 : (0 : Int) ≤ (i : Int) := by omega
  have HPI : Hid (placeI (stepped S).files nm = i) := by show _ = _; simp [placeI, stepped_files, hpl]
  have hf1 : (stepped S).files[i]? = some f := by rw [stepped_files]; exact hf
  have HF := hide hf1
  have hlen : (stepped S).files.length ≤ N := by rw [stepped_files]; exact hn
  have HL : Hid (S.files.length = (stepped S).files.length) := by show _ = _; rw [stepped_files]
  obtain ⟨g, cap, rfl, -⟩ := h.files (by omega)
  clear hs hpl hf1 hall
  go_enter Try.func16, Try.ntmps16
  go_wp2_with (first
    | (go_at_call 27; refine (unhide HST).mono ?_; rintro e w1 ⟨rfl, h1, hk1⟩; have c0 := h1.c0; obtain ⟨x0, x1, x2, xf⟩ := h1.at (unhide HF))
    | (go_at_call 28; refine (find_any B p (stepped S) _ nm _ N hN hlen h1).mono ?_; rintro e w2 ⟨rfl, rfl⟩; rw [unhide HPI]))
  go_region
  go_wp2
  go_ret
  obtain ⟨ha, hk⟩ := h1.setSafe (by decide) (by rw [unhide HL]) (unhide HF) f.data.size
  exact ⟨rfl, ha.drew, hk1.trans hk.drew (fun _ _ hh => hh)⟩

theorem sync_any (B : Nat) (p : Nat) (S : DS) (fs : Value) (nm : ByteArray) (w : World) (N : Nat) (hN : N ≤ 1099511627776) (hok : DOk S N) (h : DiskAt 58 64 B w p S fs) :
    Calls Try.prog 16 #[.pointer (some ⟨p, 0, none⟩), .string nm] w fun e w' => e = .returned (.bool (!stoppedB S)) ∧ DiskAt 58 64 B w' p (afterSync S nm) fs ∧ Kept (foot p fs) w w' := by
  cases hs : stoppedB S
  · cases hpl : place S.files nm with
    | none => rw [afterSync_none hs hpl]; exact sync_none B p S fs nm w N hN hok hs hpl h
    | some i =>
      obtain ⟨f, hf, _, _⟩ := place_some hpl
      rw [afterSync_some hs hpl hf]
      exact sync_some B p S fs nm w N hN hok hs i f hpl hf h
  · rw [afterSync_stopped hs]
    exact sync_stopped B p S fs nm w N hN hok hs h

set_option maxHeartbeats 1000000 in
theorem rsync_stopped (B : Nat) (p : Nat) (S : DS) (fs : Value) (nm : ByteArray) (w : World) (N : Nat) (hN : N ≤ 1099511627776) (hok : DOk S N) (hs : stoppedB S = true) (h : DiskAt 61 66 B w p S fs) :
    Calls Try.prog 17 #[.pointer (some ⟨p, 0, none⟩), .string nm] w fun e w' => e = .returned (.bool false) ∧ DiskAt 61 66 B w' p (stepped S) fs ∧ Kept (foot p fs) w w' := by
  obtain ⟨hl1, hl2, hn, hall⟩ := hok
  have HST := hide (rstep_any B p S fs w ⟨hl1, hl2⟩ h)
  rw [hs] at HST
  have hlen : (stepped S).files.length ≤ N := by rw [stepped_files]; exact hn
  clear hs hall
  go_enter Try.func17, Try.ntmps17
  go_wp2_with (first
    | (go_at_call 29; refine (unhide HST).mono ?_; rintro e w1 ⟨rfl, h1, hk1⟩)
    | (go_at_call 30; refine (file_any B p (stepped S) _ nm _ N hN hlen h1).mono ?_; rintro e w2 ⟨rfl, rfl⟩))
  go_ret
  exact ⟨rfl, h1, hk1⟩

set_option maxHeartbeats 1000000 in
theorem rsync_none (B : Nat) (p : Nat) (S : DS) (fs : Value) (nm : ByteArray) (w : World) (N : Nat) (hN : N ≤ 1099511627776) (hok : DOk S N) (hs : stoppedB S = false) (hpl : place S.files nm = none) (h : DiskAt 61 66 B w p S fs) :
    Calls Try.prog 17 #[.pointer (some ⟨p, 0, none⟩), .string nm] w fun e w' => e = .returned (.bool true) ∧ DiskAt 61 66 B w' p (stepped S) fs ∧ Kept (foot p fs) w w' := by
  obtain ⟨hl1, hl2, hn, hall⟩ := hok
  have HST := hide (rstep_any B p S fs w ⟨hl1, hl2⟩ h)
  rw [hs] at HST
  have HPI : Hid (placeI (stepped S).files nm = -1) := by show _ = _; simp [placeI, stepped_files, hpl]
  have hlen : (stepped S).files.length ≤ N := by rw [stepped_files]; exact hn
  clear hs hpl hall
  go_enter Try.func17, Try.ntmps17
  go_wp2_with (first
    | (go_at_call 29; refine (unhide HST).mono ?_; rintro e w1 ⟨rfl, h1, hk1⟩)
    | (go_at_call 30; refine (file_any B p (stepped S) _ nm _ N hN hlen h1).mono ?_; rintro e w2 ⟨rfl, rfl⟩; rw [unhide HPI]))
  go_ret
  exact ⟨rfl, h1, hk1⟩

set_option maxHeartbeats 1000000 in
theorem rsync_some (B : Nat) (p : Nat) (S : DS) (fs : Value) (nm : ByteArray) (w : World) (N : Nat) (hN : N ≤ 1099511627776) (hok : DOk S N) (hs : stoppedB S = false) (i : Nat) (f : FS) (hpl : place S.files nm = some i) (hf : S.files[i]? = some f) (h : DiskAt 61 66 B w p S fs) :
    Calls Try.prog 17 #[.pointer (some ⟨p, 0, none⟩), .string nm] w fun e w' => e = .returned (.bool true) ∧ DiskAt 61 66 B w' p { stepped S with files := (stepped S).files.set i { f with safe := f.data.size } } fs ∧ Kept (foot p fs) w w' := by
  obtain ⟨hl1, hl2, hn, hall⟩ := hok
  have HST := hide (rstep_any B p S fs w ⟨hl1, hl2⟩ h)
  rw [hs] at HST
  have hil : i < S.files.length := (List.getElem?_eq_some_iff.1 hf).1
  have hiz : (i : Int) < S.files.length := by omega
  have hi0 : (0 : Int) ≤ (i : Int) := by omega
  have HPI : Hid (placeI (stepped S).files nm = i) := by show _ = _; simp [placeI, stepped_files, hpl]
  have hf1 : (stepped S).files[i]? = some f := by rw [stepped_files]; exact hf
  have HF := hide hf1
  have hlen : (stepped S).files.length ≤ N := by rw [stepped_files]; exact hn
  have HL : Hid (S.files.length = (stepped S).files.length) := by show _ = _; rw [stepped_files]
  obtain ⟨g, cap, rfl, -⟩ := h.files (by omega)
  clear hs hpl hf1 hall
  go_enter Try.func17, Try.ntmps17
  go_wp2_with (first
    | (go_at_call 29; refine (unhide HST).mono ?_; rintro e w1 ⟨rfl, h1, hk1⟩; have c0 := h1.c0; obtain ⟨x0, x1, x2, xf⟩ := h1.at (unhide HF))
    | (go_at_call 30; refine (file_any B p (stepped S) _ nm _ N hN hlen h1).mono ?_; rintro e w2 ⟨rfl, rfl⟩; rw [unhide HPI]))
  go_region
  go_wp2
  go_ret
  obtain ⟨ha, hk⟩ := h1.setSafe (by decide) (by rw [unhide HL]) (unhide HF) f.data.size
  exact ⟨rfl, ha.drew, hk1.trans hk.drew (fun _ _ hh => hh)⟩

theorem rsync_any (B : Nat) (p : Nat) (S : DS) (fs : Value) (nm : ByteArray) (w : World) (N : Nat) (hN : N ≤ 1099511627776) (hok : DOk S N) (h : DiskAt 61 66 B w p S fs) :
    Calls Try.prog 17 #[.pointer (some ⟨p, 0, none⟩), .string nm] w fun e w' => e = .returned (.bool (!stoppedB S)) ∧ DiskAt 61 66 B w' p (afterSync S nm) fs ∧ Kept (foot p fs) w w' := by
  cases hs : stoppedB S
  · cases hpl : place S.files nm with
    | none => rw [afterSync_none hs hpl]; exact rsync_none B p S fs nm w N hN hok hs hpl h
    | some i =>
      obtain ⟨f, hf, _, _⟩ := place_some hpl
      rw [afterSync_some hs hpl hf]
      exact rsync_some B p S fs nm w N hN hok hs i f hpl hf h
  · rw [afterSync_stopped hs]
    exact rsync_stopped B p S fs nm w N hN hok hs h

end Go.Proofs.Ytndhpgciopcncaa
