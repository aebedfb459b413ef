import Derived.Test.YtgadceofpbfleaaGreatRows
import Derived.Test.YtgadceofpbfleaaGreatQMem0
import Derived.Test.YtgadceofpbfleaaGreatQDisk0
import Derived.Test.YtgadceofpbfleaaGreatQLater
import Derived.WalkKit
import Derived.WalkSpells
import Derived.WalkLawsBesides
import Derived.Deep.WholeRow

/- A disk in memory; the walks of its small parts. -/
namespace Go.Proofs.YtgadceofpbfleaaGreat
open Go.RowKit
set_option linter.unusedVariables false

/-- A disk at block p: T its type, e that of a file; fs: the list of its files. -/
structure DiskAt (T e : TypeId) (B : Nat) (w : World) (p : Nat) (S : DS) (fs : Value) : Prop where
  head : w.heap[p]? = some (.cells #[fs, .int .i64 S.left, .bool S.down] T (0, 0))
  base : B ≤ p
  row : w.ownsRow B e 3 fs S.files.length (fileCells S.files)

theorem dcell {w : World} {g : Nat} {cs : Array Value} {t : TypeId} {fr : Nat × Nat} (h : w.heap[g]? = some (.cells cs t fr)) (i : Nat) : w.cell? ⟨g, i, none⟩ = cs[i]? := by simp [World.cell?, h]
theorem dfree {w : World} {g : Nat} {cs : Array Value} {t : TypeId} (h : w.heap[g]? = some (.cells cs t (0, 0))) (i : Nat) : w.frozen? ⟨g, i, none⟩ = false := by simp [World.frozen?, h]
theorem dset {w : World} {g i : Nat} {cs : Array Value} {t : TypeId} {fr : Nat × Nat} (h : w.heap[g]? = some (.cells cs t fr)) (v : Value) : (w.setCell ⟨g, i, none⟩ v).heap[g]? = some (.cells (cs.setIfInBounds i v) t fr) := by
  rw [setCell_eq_setRow w g i cs t fr v h]
  exact setRow_heap w g _ _ t _ h

section
variable {T e : TypeId} {B : Nat} {w : World} {p : Nat} {S : DS} {fs : Value}

theorem DiskAt.c0 (h : DiskAt T e B w p S fs) : w.cell? ⟨p, 0, none⟩ = some fs := by rw [dcell h.head]; rfl
theorem DiskAt.c1 (h : DiskAt T e B w p S fs) : w.cell? ⟨p, 1, none⟩ = some (.int .i64 S.left) := by rw [dcell h.head]; rfl
theorem DiskAt.c2 (h : DiskAt T e B w p S fs) : w.cell? ⟨p, 2, none⟩ = some (.bool S.down) := by rw [dcell h.head]; rfl
theorem DiskAt.free (h : DiskAt T e B w p S fs) (i : Nat) : w.frozen? ⟨p, i, none⟩ = false := dfree h.head i

/-- the blocks of a disk. -/
def foot (p : Nat) (fs : Value) (k : Nat) : Prop := k = p ∨ fs.ownBlock = some k

theorem DiskAt.apart (h : DiskAt T e B w p S fs) (hT : T ≠ e) : fs.ownBlock ≠ some p := fun hk => by
  obtain ⟨cur, hc⟩ := owns_type h.row hk
  rw [h.head] at hc
  injection hc with hc; injection hc with _ hc; exact hT hc

theorem DiskAt.kept {f : Nat → Prop} {w' : World} (h : DiskAt T e B w p S fs) (hk : Kept f w w') (hn : ∀ k, foot p fs k → ¬ f k) : DiskAt T e B w' p S fs :=
  ⟨hk.heap h.head (hn p (.inl rfl)), h.base, owns_kept h.row hk (fun k hh => hn k (.inr hh))⟩

theorem DiskAt.later {w' : World} (h : DiskAt T e B w p S fs) (hb : Below w.heap.size w w') : DiskAt T e B w' p S fs :=
  h.kept (f := fun _ => False) (Kept.of_below hb) (fun _ _ hh => hh)

theorem DiskAt.lt (h : DiskAt T e B w p S fs) : p < w.heap.size := lt_of_heap h.head

/-- the files by index. -/
theorem DiskAt.files (h : DiskAt T e B w p S fs) (hn : 0 < S.files.length) : ∃ g cap, fs = .slice (some ⟨g, 0, none⟩) S.files.length cap ∧ B ≤ g ∧ g < w.heap.size ∧ (∀ j, w.frozen? ⟨g, j, none⟩ = false) ∧
    ∀ i f, S.files[i]? = some f → w.cell? ⟨g, i * 3, none⟩ = some (.string f.name) ∧ w.cell? ⟨g, i * 3 + 1, none⟩ = some (.string f.data) ∧ w.cell? ⟨g, i * 3 + 2, none⟩ = some (.int .i64 f.safe) := by
  obtain ⟨g, cap, hv, hb, hlt⟩ := h.row.form hn
  have hr := h.row
  rw [hv] at hr
  refine ⟨g, cap, hv, hb, hlt, fun j => hr.frozenAt j, fun i f hi => ?_⟩
  have hil : i < S.files.length := (List.getElem?_eq_some_iff.1 hi).1
  refine ⟨?_, ?_, ?_⟩
  · rw [hr.cellAt _ (by omega), fileCells_0 _ _ _ hi]
  · rw [hr.cellAt _ (by omega), fileCells_1 _ _ _ hi]
  · rw [hr.cellAt _ (by omega), fileCells_2 _ _ _ hi]

theorem slice_of (h : w.ownsRow B e 3 fs S.files.length (fileCells S.files)) : ∃ a cap, fs = .slice a S.files.length cap := by
  rcases h.2 with ⟨h1, h2⟩ | ⟨g, cap, _, h1, _⟩
  · exact ⟨none, 0, by rw [h1, h2]⟩
  · exact ⟨_, cap, h1⟩

/-- the second or third cell of a disk is written. -/
theorem DiskAt.setDown (h : DiskAt T e B w p S fs) (hT : T ≠ e) (b : Bool) : DiskAt T e B (w.setCell ⟨p, 2, none⟩ (.bool b)) p { S with down := b } fs ∧ Kept (foot p fs) w (w.setCell ⟨p, 2, none⟩ (.bool b)) := by
  have hk : Kept (foot p fs) w (w.setCell ⟨p, 2, none⟩ (.bool b)) := (Kept.refl _ _).setCell (fun _ => .inl rfl) _
  have hk' : Kept (fun k => k = p) w (w.setCell ⟨p, 2, none⟩ (.bool b)) := (Kept.refl (fun k => k = p) w).setCell (fun _ => rfl) _
  exact ⟨⟨by rw [dset h.head]; rfl, h.base, owns_kept h.row hk' (fun k hh hkp => h.apart hT (hkp ▸ hh))⟩, hk⟩
theorem DiskAt.setLeft (h : DiskAt T e B w p S fs) (hT : T ≠ e) (n : Int) : DiskAt T e B (w.setCell ⟨p, 1, none⟩ (.int .i64 n)) p { S with left := n } fs ∧ Kept (foot p fs) w (w.setCell ⟨p, 1, none⟩ (.int .i64 n)) := by
  have hk : Kept (foot p fs) w (w.setCell ⟨p, 1, none⟩ (.int .i64 n)) := (Kept.refl _ _).setCell (fun _ => .inl rfl) _
  have hk' : Kept (fun k => k = p) w (w.setCell ⟨p, 1, none⟩ (.int .i64 n)) := (Kept.refl (fun k => k = p) w).setCell (fun _ => rfl) _
  exact ⟨⟨by rw [dset h.head]; rfl, h.base, owns_kept h.row hk' (fun k hh hkp => h.apart hT (hkp ▸ hh))⟩, hk⟩
end

theorem dret_bool {a b : Bool} (h : a = b) : Ending.returned (.bool a) = .returned (.bool b) := by rw [h]
theorem dret_int {k : IntKind} {a b : Int} (h : a = b) : Ending.returned (.int k a) = .returned (.int k b) := by rw [h]

set_option maxHeartbeats 400000 in
theorem stopped_any (B : Nat) (p : Nat) (S : DS) (fs : Value) (w : World) (h : DiskAt 67 75 B w p S fs) :
    Calls Tryz.prog 11 #[.pointer (some ⟨p, 0, none⟩)] w fun e w' => e = .returned (.bool (stoppedB S)) ∧ w' = w := by
  have c1 := h.c1
  have c2 := h.c2
  have HS : Hid (stoppedB S = (S.down || S.left == 0)) := rfl
  cases hd : S.down
  · rw [hd] at c2
    go_enter Tryz.func11, Tryz.ntmps11
    go_wp2
    go_ret
    exact ⟨dret_bool (by rw [HS.out, hd]; simp), rfl⟩
  · rw [hd] at c2
    go_enter Tryz.func11, Tryz.ntmps11
    go_wp2
    go_ret
    exact ⟨dret_bool (by rw [HS.out, hd]; simp), rfl⟩

theorem stepped_down {S : DS} (h : stoppedB S = true) : stepped S = { S with down := true } := by simp [stepped, h]
theorem stepped_pos {S : DS} (h : stoppedB S = false) (hl : 0 < S.left) : stepped S = { S with left := S.left - 1 } := by simp [stepped, h, hl]
theorem stepped_neg {S : DS} (h : stoppedB S = false) (hl : ¬ 0 < S.left) : stepped S = S := by simp [stepped, h, hl]

set_option maxHeartbeats 400000 in
theorem step_any (B : Nat) (p : Nat) (S : DS) (fs : Value) (w : World) (hl : -1 ≤ S.left ∧ S.left ≤ 9223372036854775807) (h : DiskAt 67 75 B w p S fs) :
    Calls Tryz.prog 97 #[.pointer (some ⟨p, 0, none⟩)] w fun e w' => e = .returned (.bool (!stoppedB S)) ∧ DiskAt 67 75 B w' p (stepped S) fs ∧ Kept (foot p fs) w w' := by
  have c1 := h.c1
  have c2 := h.c2
  have hfr := h.free
  have HS : Hid (stoppedB S = (S.down || S.left == 0)) := rfl
  cases hd : S.down
  · rw [hd] at c2
    by_cases h0 : S.left = 0
    · have hs : stoppedB S = true := by simp [stoppedB, h0]
      have hz : (S.left == 0) = true := by simp [h0]
      have HD := h.setDown (by decide) true
      rw [← stepped_down hs] at HD
      have HD : Hid (_ ∧ _) := HD
      have HR : Hid ((!stoppedB S) = false) := by show _ = _; rw [hs]; rfl
      clear HS hs h0 h
      go_enter Tryz.func97, Tryz.ntmps97
      go_wp2
      go_ret
      exact ⟨dret_bool HR.out.symm, HD.out⟩
    · have hs : stoppedB S = false := by simp [stoppedB, h0, hd]
      have hz : (S.left == 0) = false := by simp [h0]
      have HR : Hid ((!stoppedB S) = true) := by show _ = _; rw [hs]; rfl
      by_cases hp : 0 < S.left
      · have HD := h.setLeft (by decide) (S.left - 1)
        rw [← stepped_pos hs hp] at HD
        have HD : Hid (_ ∧ _) := HD
        clear HS hs h0 h
        go_enter Tryz.func97, Tryz.ntmps97
        go_wp2
        go_ret
        exact ⟨dret_bool HR.out.symm, HD.out⟩
      · have HD : Hid (DiskAt 67 75 B w p (stepped S) fs) := by show DiskAt _ _ _ _ _ _ _; rw [stepped_neg hs hp]; exact h
        clear HS hs h0 h
        go_enter Tryz.func97, Tryz.ntmps97
        go_wp2
        go_ret
        exact ⟨dret_bool HR.out.symm, HD.out, Kept.refl _ _⟩
  · rw [hd] at c2
    have hs : stoppedB S = true := by simp [stoppedB, hd]
    have HD := h.setDown (by decide) true
    rw [← stepped_down hs] at HD
    have HD : Hid (_ ∧ _) := HD
    have HR : Hid ((!stoppedB S) = false) := by show _ = _; rw [hs]; rfl
    clear HS hs h
    go_enter Tryz.func97, Tryz.ntmps97
    go_wp2
    go_ret
    exact ⟨dret_bool HR.out.symm, HD.out⟩

set_option maxHeartbeats 1000000 in
theorem find_any (B : Nat) (p : Nat) (S : DS) (fs : Value) (nm : ByteArray) (w : World) (N : Nat) (hN : N ≤ 1099511627776) (hl : S.files.length ≤ N) (h : DiskAt 67 75 B w p S fs) :
    Calls Tryz.prog 98 #[.pointer (some ⟨p, 0, none⟩), .string nm] w fun e w' => e = .returned (.int .i64 (placeI S.files nm)) ∧ w' = w := by
  have c0 := h.c0
  obtain ⟨a, cap, hfs⟩ := slice_of h.row
  subst hfs
  go_enter Tryz.func98, Tryz.ntmps98
  go_wp2
  go_loop [4, 5, 11] (fun _ _ y => ∃ (k : Nat), k ≤ S.files.length ∧ y = .int .i64 k ∧ ∀ j f, j < k → S.files[j]? = some f → eqS f.name nm = false) (fun _ _ y => S.files.length - (intOf y).toNat)
  case atStart => exact ⟨0, Nat.zero_le _, rfl, fun j f hj => absurd hj (Nat.not_lt_zero _)⟩
  case round =>
    obtain ⟨k, hk, rfl, ha⟩ := hrel
    have HA := hide ha
    clear ha
    by_cases hlt : k < S.files.length
    · obtain ⟨g, cap', hv, _, _, _, hc⟩ := h.files (by omega)
      cases hv
      obtain ⟨f, hf⟩ := get_of_lt hlt
      obtain ⟨h1, _, _⟩ := hc k f hf
      have HF := hide hf
      have hkn : (k : Int) < S.files.length := by omega
      clear hc hf h
      cases he : eqS f.name nm
      · have he' : (f.name.toList == nm.toList) = false := he
        have HE := hide he
        clear he
        go_wp2
        go_round
        case rel =>
          refine ⟨k + 1, by omega, by go_num, fun j f' hj hj' => ?_⟩
          by_cases e : j = k
          · subst e; rw [unhide HF] at hj'; cases hj'; exact unhide HE
          · exact unhide HA j f' (by omega) hj'
        case measure => simp [intOf]; omega
      · have hp := (placeI_some (unhide HF) he (unhide HA)).2
        have HP := hide hp
        have he' : (f.name.toList == nm.toList) = true := he
        clear hp he
        go_wp2
        go_ret
        exact ⟨dret_int (unhide HP).symm, rfl⟩
    · have hp := (placeI_none (l := S.files) (name := nm) (fun j f hj hf => unhide HA j f (by omega) hf)).2
      have HP := hide hp
      clear hp
      go_wp2
      go_ret
      exact ⟨dret_int (unhide HP).symm, rfl⟩

end Go.Proofs.YtgadceofpbfleaaGreat

/- Walks: Append and Sync, of both disks. -/
namespace Go.Proofs.YtgadceofpbfleaaGreat
open Go.RowKit
set_option linter.unusedVariables false

theorem Tryz.infoFile : (Tryz.prog.info? 75).map (fun i => (i.zero, i.size, i.bytes)) = some (some (.agg #[.string ByteArray.empty, .string ByteArray.empty, .int .i64 0]), 3, 40) := by kernel_rfl
section
variable {T e : TypeId} {B : Nat} {w : World} {p : Nat} {S : DS} {fs : Value}

theorem DiskAt.at {g n cap : Nat} (h : DiskAt T e B w p S (.slice (some ⟨g, 0, none⟩) n cap)) {i : Nat} {f : FS} (hf : S.files[i]? = some f) :
    w.cell? ⟨g, i * 3, none⟩ = some (.string f.name) ∧ w.cell? ⟨g, i * 3 + 1, none⟩ = some (.string f.data) ∧ w.cell? ⟨g, i * 3 + 2, none⟩ = some (.int .i64 f.safe) ∧ (∀ j, w.frozen? ⟨g, j, none⟩ = false) := by
  obtain ⟨g', cap', hv, _, _, hz, hc⟩ := h.files (by have := (List.getElem?_eq_some_iff.1 hf).1; omega)
  injection hv with h1 h2 h3
  injection h1 with h1
  injection h1 with h1
  subst h1
  obtain ⟨x, y, z⟩ := hc i f hf
  exact ⟨x, y, z, hz⟩

theorem DiskAt.setData (h : DiskAt T e B w p S fs) (hT : T ≠ e) {g cap : Nat} (hfs : fs = .slice (some ⟨g, 0, none⟩) S.files.length cap) {i : Nat} {f : FS} (hf : S.files[i]? = some f) (d : ByteArray) :
    DiskAt T e B (w.setCell ⟨g, i * 3 + 1, none⟩ (.string d)) p { S with files := S.files.set i { f with data := d } } fs ∧ Kept (foot p fs) w (w.setCell ⟨g, i * 3 + 1, none⟩ (.string d)) := by
  have hg : fs.ownBlock = some g := by rw [hfs]; rfl
  have hne : p ≠ g := fun e => h.apart hT (e ▸ hg)
  have hr := h.row
  rw [hfs] at hr
  have hs := hr.stored (i * 3 + 1) (.string d)
  rw [← fileCells_set1 _ _ _ d hf] at hs
  refine ⟨⟨?_, h.base, ?_⟩, (Kept.refl (foot p fs) w).setCell (fun _ => .inr hg) _⟩
  · rw [Below.heap_setCell _ _ _ _ hne]; exact h.head
  · rw [hfs]; simpa using hs.1
theorem DiskAt.setSafe (h : DiskAt T e B w p S fs) (hT : T ≠ e) {g cap : Nat} (hfs : fs = .slice (some ⟨g, 0, none⟩) S.files.length cap) {i : Nat} {f : FS} (hf : S.files[i]? = some f) (d : Nat) :
    DiskAt T e B (w.setCell ⟨g, i * 3 + 2, none⟩ (.int .i64 d)) p { S with files := S.files.set i { f with safe := d } } fs ∧ Kept (foot p fs) w (w.setCell ⟨g, i * 3 + 2, none⟩ (.int .i64 d)) := by
  have hg : fs.ownBlock = some g := by rw [hfs]; rfl
  have hne : p ≠ g := fun e => h.apart hT (e ▸ hg)
  have hr := h.row
  rw [hfs] at hr
  have hs := hr.stored (i * 3 + 2) (.int .i64 d)
  rw [← fileCells_set2 _ _ _ d hf] at hs
  refine ⟨⟨?_, h.base, ?_⟩, (Kept.refl (foot p fs) w).setCell (fun _ => .inr hg) _⟩
  · rw [Below.heap_setCell _ _ _ _ hne]; exact h.head
  · rw [hfs]; simpa using hs.1

/-- the list of files is another: the head's first cell is written. -/
theorem DiskAt.setFiles {w0 : World} (h : DiskAt T e B w0 p S fs) (hT : T ≠ e) (hk : Kept (foot p fs) w0 w) (hp : w.heap[p]? = w0.heap[p]?) {v' : Value} {l : List FS} (hrow : w.ownsRow B e 3 v' l.length (fileCells l)) :
    DiskAt T e B (w.setCell ⟨p, 0, none⟩ v') p { S with files := l } v' ∧ Kept (foot p fs) w0 (w.setCell ⟨p, 0, none⟩ v') := by
  have hh : w.heap[p]? = some (.cells #[fs, .int .i64 S.left, .bool S.down] T (0, 0)) := hp.trans h.head
  have hk' : Kept (fun k => k = p) w (w.setCell ⟨p, 0, none⟩ v') := (Kept.refl (fun k => k = p) w).setCell (fun _ => rfl) _
  refine ⟨⟨by rw [dset hh]; rfl, h.base, owns_kept hrow hk' (fun k hko hkp => ?_)⟩, hk.setCell (fun _ => .inl rfl) _⟩
  subst hkp
  obtain ⟨cur, hc⟩ := owns_type hrow hko
  rw [hh] at hc
  injection hc with hc; injection hc with _ hc; exact hT hc
end

def afterAppend (S : DS) (name data : ByteArray) : DS := if stoppedB S then stepped S else appended (stepped S) name data
theorem stepped_files (S : DS) : (stepped S).files = S.files := by unfold stepped; split <;> rfl

theorem afterAppend_some {S : DS} {nm dt : ByteArray} {i : Nat} {f : FS} (hs : stoppedB S = false) (hpl : place S.files nm = some i) (hf : S.files[i]? = some f) : afterAppend S nm dt = { stepped S with files := (stepped S).files.set i { f with data := f.data ++ dt } } := by
  simp [afterAppend, hs, appended, stepped_files, hpl, hf]
theorem afterAppend_none {S : DS} {nm dt : ByteArray} (hs : stoppedB S = false) (hpl : place S.files nm = none) : afterAppend S nm dt = { stepped S with files := (stepped S).files ++ [⟨nm, dt, 0⟩] } := by
  simp [afterAppend, hs, appended, stepped_files, hpl]
theorem afterAppend_stopped {S : DS} {nm dt : ByteArray} (hs : stoppedB S = true) : afterAppend S nm dt = stepped S := by simp [afterAppend, hs]

set_option maxHeartbeats 1000000 in
theorem append_stopped (B : Nat) (p : Nat) (S : DS) (fs : Value) (nm dt : ByteArray) (w : World) (hl1 : -1 ≤ S.left) (hl2 : S.left ≤ 9223372036854775807) (hs : stoppedB S = true) (h : DiskAt 67 75 B w p S fs) :
    Calls Tryz.prog 74 #[.pointer (some ⟨p, 0, none⟩), .string nm, .string dt] w fun e w' => e = .returned (.bool false) ∧ DiskAt 67 75 B w' p (stepped S) fs ∧ Kept (foot p fs) w w' := by
  have HST := hide (step_any B p S fs w ⟨hl1, hl2⟩ h)
  rw [hs] at HST
  clear hs
  go_enter Tryz.func74, Tryz.ntmps74
  go_wp2_with (go_at_call 97; refine (unhide HST).mono ?_; rintro e w1 ⟨rfl, h1, hk1⟩)
  go_ret
  exact ⟨rfl, h1, hk1⟩

set_option maxHeartbeats 1000000 in
theorem append_some (B : Nat) (p : Nat) (S : DS) (fs : Value) (nm dt : ByteArray) (w : World) (N : Nat) (hN : N ≤ 1099511627776) (hok : DOk S N) (hdt : dt.size ≤ 1099511627776) (hs : stoppedB S = false) (i : Nat) (f : FS) (hpl : place S.files nm = some i) (hf : S.files[i]? = some f) (h : DiskAt 67 75 B w p S fs) :
    Calls Tryz.prog 74 #[.pointer (some ⟨p, 0, none⟩), .string nm, .string dt] w fun e w' => e = .returned (.bool true) ∧ DiskAt 67 75 B w' p { stepped S with files := (stepped S).files.set i { f with data := f.data ++ dt } } fs ∧ Kept (foot p fs) w w' := by
  obtain ⟨hl1, hl2, hn, hall⟩ := hok
  have HST := hide (step_any B p S fs w ⟨hl1, hl2⟩ h)
  rw [hs] at HST
  have hil : i < S.files.length := (List.getElem?_eq_some_iff.1 hf).1
  have hiz : (i : Int) < S.files.length := by omega
  have hi0 : ¬ (i : Int) < 0 := by omega
  have hfd := (hall f (List.mem_of_getElem? hf)).2
  have hsum : f.data.size + dt.size ≤ 9223372036854775807 := by omega
  have hadd := fun wx => run_string_add_sum (P := Tryz.prog) (w := wx) f.data dt hsum
  have HPI : Hid (placeI (stepped S).files nm = i) := by show _ = _; simp [placeI, stepped_files, hpl]
  have hf1 : (stepped S).files[i]? = some f := by rw [stepped_files]; exact hf
  have HF := hide hf1
  have hlen : (stepped S).files.length ≤ N := by rw [stepped_files]; exact hn
  have HL : Hid (S.files.length = (stepped S).files.length) := by show _ = _; rw [stepped_files]
  obtain ⟨g, cap, rfl, -⟩ := h.files (by omega)
  clear hs hpl hf1 hall
  go_enter Tryz.func74, Tryz.ntmps74
  go_wp2_with (first
    | (go_at_call 97; refine (unhide HST).mono ?_; rintro e w1 ⟨rfl, h1, hk1⟩; have c0 := h1.c0; obtain ⟨x0, x1, x2, xf⟩ := h1.at (unhide HF))
    | (go_at_call 98; refine (find_any B p (stepped S) _ nm _ N hN hlen h1).mono ?_; rintro e w2 ⟨rfl, rfl⟩; rw [unhide HPI]))
  go_ret
  obtain ⟨ha, hk⟩ := h1.setData (by decide) (by rw [unhide HL]) (unhide HF) (f.data ++ dt)
  exact ⟨rfl, ha, hk1.trans hk (fun _ _ hh => hh)⟩

theorem nothing_append (d : ByteArray) : (⟨#[]⟩ ++ d : ByteArray) = d := by
  cases d with
  | mk data => apply ByteArray.ext; simp

theorem pushed_row {w : World} {B : Nat} {e : TypeId} {v : Value} {l : List FS} {f : FS} {n : Nat} (hn : n = l.length) (h : w.ownsRow B e 3 v (n + 1) (fileCells l ++ [.string f.name, .string f.data, .int .i64 f.safe])) : w.ownsRow B e 3 v (l ++ [f]).length (fileCells (l ++ [f])) := by
  subst hn
  rw [fileCells_append]; simpa [fileCells] using h

set_option maxHeartbeats 1000000 in
theorem append_none (B : Nat) (p : Nat) (S : DS) (fs : Value) (nm dt : ByteArray) (w : World) (N : Nat) (hN : N ≤ 1099511627776) (hok : DOk S N) (hdt : dt.size ≤ 1099511627776) (hB : B ≤ w.heap.size) (hs : stoppedB S = false) (hpl : place S.files nm = none) (h : DiskAt 67 75 B w p S fs) :
    Calls Tryz.prog 74 #[.pointer (some ⟨p, 0, none⟩), .string nm, .string dt] w fun e w' => e = .returned (.bool true) ∧ ∃ fs', DiskAt 67 75 B w' p { stepped S with files := (stepped S).files ++ [⟨nm, dt, 0⟩] } fs' ∧ Kept (foot p fs) w w' ∧ ∀ k, fs'.ownBlock = some k → fs.ownBlock = some k ∨ w.heap.size ≤ k := by
  obtain ⟨hl1, hl2, hn, hall⟩ := hok
  have HST := hide (step_any B p S fs w ⟨hl1, hl2⟩ h)
  rw [hs] at HST
  have HPI : Hid (placeI (stepped S).files nm = -1) := by show _ = _; simp [placeI, stepped_files, hpl]
  have hlen : (stepped S).files.length ≤ N := by rw [stepped_files]; exact hn
  have HL : Hid ((stepped S).files.length = S.files.length) := by show _ = _; rw [stepped_files]
  obtain ⟨a, cap0, rfl⟩ := slice_of h.row
  have hadd := fun wx => run_string_add_sum (P := Tryz.prog) (w := wx) ⟨#[]⟩ dt (by show 0 + dt.size ≤ _; omega)
  clear hs hpl hall h
  go_enter Tryz.func74, Tryz.ntmps74
  go_wp2_with (first
    | (at_builtin
       refine wpList_append_keep rfl _ _ 65 rfl B 75 _ 3 40 Tryz.underlying65 Tryz.infoFile rfl (by decide) (.slice a S.files.length cap0) S.files.length (fileCells (stepped S).files) rfl ?hown ⟨w2.heap.size, 0, none⟩ 1 1 [.string nm, .string ⟨#[]⟩, .int .i64 0] rfl rfl ?hnews ?h1 (by decide) ?h63 ?hbytes ?hbase ?_
       case hown => (have := h1.row; rw [unhide HL] at this; exact this.alloc _)
       case hnews => exact World.news_of_block (heap_alloc_last _ _)
       case h1 => (intro u hu; simp at hu; rcases hu with rfl | rfl | rfl <;> rfl)
       case h63 => (simp only [maxLen]; omega)
       case hbytes => omega
       case hbase => (have := hk1.size; simp; omega)
       intro g cap w3 hown hold hgrow hat hlt
       have hp1 := h1.lt
       have hp3 : w3.heap[p]? = w2.heap[p]? := (hgrow.block p (by simp; omega) (fun e => h1.apart (by decide) e.symm)).trans (Below.heap_alloc _ _ _ hp1)
       have hk3 : Kept (foot p (.slice a S.files.length cap0)) w2 w3 := ((Kept.refl _ _).alloc _).grown hgrow (fun k hk _ => .inr hk)
       have hrow := pushed_row (f := ⟨nm, ⟨#[]⟩, 0⟩) (unhide HL).symm hown
       obtain ⟨hD, hK⟩ := h1.setFiles (by decide) hk3 hp3 hrow
       have e0 := hD.c0
       obtain ⟨e1, e2, e3, e4⟩ := hD.at (i := S.files.length) (f := ⟨nm, ⟨#[]⟩, 0⟩) (by simp [unhide HL])
       have d0 : w3.cell? ⟨p, 0, none⟩ = _ := (World.cell?_of_block (a := ⟨p, 0, none⟩) hp3).trans h1.c0
       have d1 : w3.frozen? ⟨p, 0, none⟩ = false := (World.frozen?_of_block (a := ⟨p, 0, none⟩) hp3).trans (h1.free 0))
    | (go_at_call 97; refine (unhide HST).mono ?_; rintro e w1 ⟨rfl, h1, hk1⟩; have c0 := h1.c0)
    | (go_at_call 98; refine (find_any B p (stepped S) _ nm _ N hN hlen h1).mono ?_; rintro e w2 ⟨rfl, rfl⟩; rw [unhide HPI]))
  go_ret
  obtain ⟨ha, hk⟩ := hD.setData (by decide) (g := g) (cap := cap) (by simp [unhide HL]) (i := S.files.length) (f := ⟨nm, ⟨#[]⟩, 0⟩) (by simp [unhide HL]) (⟨#[]⟩ ++ dt)
  refine ⟨rfl, .slice (some ⟨g, 0, none⟩) (S.files.length + 1) cap, ?_, hk1.trans (hK.trans hk (fun k hlt' hh => ?_)) (fun _ _ hh => hh), fun k hk' => ?_⟩
  · rw [nothing_append] at ha ⊢
    have e : ((stepped S).files ++ [(⟨nm, ⟨#[]⟩, 0⟩ : FS)]).set S.files.length ⟨nm, dt, 0⟩ = (stepped S).files ++ [⟨nm, dt, 0⟩] := by
      rw [← unhide HL]; simp
    rw [← e]; exact ha
  · rcases hh with rfl | hh
    · exact .inl rfl
    · simp [Value.ownBlock] at hh
      subst hh
      rcases hat with hat | hat
      · exact .inr hat
      · simp at hat; omega
  · simp [Value.ownBlock] at hk'
    subst hk'
    rcases hat with hat | hat
    · exact .inl hat
    · right; have := hk1.size; simp at hat; omega

theorem append_any (B : Nat) (p : Nat) (S : DS) (fs : Value) (nm dt : ByteArray) (w : World) (N : Nat) (hN : N ≤ 1099511627776) (hok : DOk S N) (hdt : dt.size ≤ 1099511627776) (hB : B ≤ w.heap.size) (h : DiskAt 67 75 B w p S fs) :
    Calls Tryz.prog 74 #[.pointer (some ⟨p, 0, none⟩), .string nm, .string dt] w fun e w' => e = .returned (.bool (!stoppedB S)) ∧ ∃ fs', DiskAt 67 75 B w' p (afterAppend S nm dt) fs' ∧ Kept (foot p fs) w w' ∧ ∀ k, fs'.ownBlock = some k → fs.ownBlock = some k ∨ w.heap.size ≤ k := by
  cases hs : stoppedB S
  · cases hpl : place S.files nm with
    | none => rw [afterAppend_none hs hpl]; exact append_none B p S fs nm dt w N hN hok hdt hB hs hpl h
    | some i =>
      obtain ⟨f, hf, _, _⟩ := place_some hpl
      rw [afterAppend_some hs hpl hf]
      exact (append_some B p S fs nm dt w N hN hok hdt hs i f hpl hf h).mono fun e w' ⟨h1, h2, h3⟩ => ⟨h1, fs, h2, h3, fun k hk => .inl hk⟩
  · rw [afterAppend_stopped hs]
    exact (append_stopped B p S fs nm dt w hok.1 hok.2.1 hs h).mono fun e w' ⟨h1, h2, h3⟩ => ⟨h1, fs, h2, h3, fun k hk => .inl hk⟩
end Go.Proofs.YtgadceofpbfleaaGreat

/- Walks: the document's Append. -/
namespace Go.Proofs.YtgadceofpbfleaaGreat
open Go.RowKit
set_option linter.unusedVariables false

theorem DiskAt.drew {T e : TypeId} {B : Nat} {w : World} {p : Nat} {S : DS} {fs : Value} (h : DiskAt T e B w p S fs) : DiskAt T e B w.drew p S fs := h.later ((Below.refl _ _).drew)

def afterSync (S : DS) (name : ByteArray) : DS := if stoppedB S then stepped S else synced (stepped S) name
theorem afterSync_some {S : DS} {nm : ByteArray} {i : Nat} {f : FS} (hs : stoppedB S = false) (hpl : place S.files nm = some i) (hf : S.files[i]? = some f) : afterSync S nm = { stepped S with files := (stepped S).files.set i { f with safe := f.data.size } } := by
  simp [afterSync, hs, synced, stepped_files, hpl, hf]
theorem afterSync_none {S : DS} {nm : ByteArray} (hs : stoppedB S = false) (hpl : place S.files nm = none) : afterSync S nm = stepped S := by
  simp [afterSync, hs, synced, stepped_files, hpl]
theorem afterSync_stopped {S : DS} {nm : ByteArray} (hs : stoppedB S = true) : afterSync S nm = stepped S := by simp [afterSync, hs]

set_option maxHeartbeats 1000000 in
theorem sync_stopped (B : Nat) (p : Nat) (S : DS) (fs : Value) (nm : ByteArray) (w : World) (N : Nat) (hN : N ≤ 1099511627776) (hok : DOk S N) (hs : stoppedB S = true) (h : DiskAt 67 75 B w p S fs) :
    Calls Tryz.prog 75 #[.pointer (some ⟨p, 0, none⟩), .string nm] w fun e w' => e = .returned (.bool false) ∧ DiskAt 67 75 B w' p (stepped S) fs ∧ Kept (foot p fs) w w' := by
  obtain ⟨hl1, hl2, hn, hall⟩ := hok
  have HST := hide (step_any B p S fs w ⟨hl1, hl2⟩ h)
  rw [hs] at HST
  have hlen : (stepped S).files.length ≤ N := by rw [stepped_files]; exact hn
  clear hs hall
  go_enter Tryz.func75, Tryz.ntmps75
  go_wp2_with (first
    | (go_at_call 97; refine (unhide HST).mono ?_; rintro e w1 ⟨rfl, h1, hk1⟩)
    | (go_at_call 98; refine (find_any B p (stepped S) _ nm _ N hN hlen h1).mono ?_; rintro e w2 ⟨rfl, rfl⟩))
  go_ret
  exact ⟨rfl, h1, hk1⟩

set_option maxHeartbeats 1000000 in
theorem sync_none (B : Nat) (p : Nat) (S : DS) (fs : Value) (nm : ByteArray) (w : World) (N : Nat) (hN : N ≤ 1099511627776) (hok : DOk S N) (hs : stoppedB S = false) (hpl : place S.files nm = none) (h : DiskAt 67 75 B w p S fs) :
    Calls Tryz.prog 75 #[.pointer (some ⟨p, 0, none⟩), .string nm] w fun e w' => e = .returned (.bool true) ∧ DiskAt 67 75 B w' p (stepped S) fs ∧ Kept (foot p fs) w w' := by
  obtain ⟨hl1, hl2, hn, hall⟩ := hok
  have HST := hide (step_any B p S fs w ⟨hl1, hl2⟩ h)
  rw [hs] at HST
  have HPI : Hid (placeI (stepped S).files nm = -1) := by show _ = _; simp [placeI, stepped_files, hpl]
  have hlen : (stepped S).files.length ≤ N := by rw [stepped_files]; exact hn
  clear hs hpl hall
  go_enter Tryz.func75, Tryz.ntmps75
  go_wp2_with (first
    | (go_at_call 97; refine (unhide HST).mono ?_; rintro e w1 ⟨rfl, h1, hk1⟩)
    | (go_at_call 98; refine (find_any B p (stepped S) _ nm _ N hN hlen h1).mono ?_; rintro e w2 ⟨rfl, rfl⟩; rw [unhide HPI]))
  go_ret
  exact ⟨rfl, h1, hk1⟩

set_option maxHeartbeats 1000000 in
theorem sync_some (B : Nat) (p : Nat) (S : DS) (fs : Value) (nm : ByteArray) (w : World) (N : Nat) (hN : N ≤ 1099511627776) (hok : DOk S N) (hs : stoppedB S = false) (i : Nat) (f : FS) (hpl : place S.files nm = some i) (hf : S.files[i]? = some f) (h : DiskAt 67 75 B w p S fs) :
    Calls Tryz.prog 75 #[.pointer (some ⟨p, 0, none⟩), .string nm] w fun e w' => e = .returned (.bool true) ∧ DiskAt 67 75 B w' p { stepped S with files := (stepped S).files.set i { f with safe := f.data.size } } fs ∧ Kept (foot p fs) w w' := by
  obtain ⟨hl1, hl2, hn, hall⟩ := hok
  have HST := hide (step_any B p S fs w ⟨hl1, hl2⟩ h)
  rw [hs] at HST
  have hil : i < S.files.length := (List.getElem?_eq_some_iff.1 hf).1
  have hiz : (i : Int) < S.files.length := by omega
  have hi0 : (0 : Int) ≤ (i : Int) := by omega
  have HPI : Hid (placeI (stepped S).files nm = i) := by show _ = _; simp [placeI, stepped_files, hpl]
  have hf1 : (stepped S).files[i]? = some f := by rw [stepped_files]; exact hf
  have HF := hide hf1
  have hlen : (stepped S).files.length ≤ N := by rw [stepped_files]; exact hn
  have HL : Hid (S.files.length = (stepped S).files.length) := by show _ = _; rw [stepped_files]
  obtain ⟨g, cap, rfl, -⟩ := h.files (by omega)
  clear hs hpl hf1 hall
  go_enter Tryz.func75, Tryz.ntmps75
  go_wp2_with (first
    | (go_at_call 97; refine (unhide HST).mono ?_; rintro e w1 ⟨rfl, h1, hk1⟩; have c0 := h1.c0; obtain ⟨x0, x1, x2, xf⟩ := h1.at (unhide HF))
    | (go_at_call 98; refine (find_any B p (stepped S) _ nm _ N hN hlen h1).mono ?_; rintro e w2 ⟨rfl, rfl⟩; rw [unhide HPI]))
  go_region
  go_wp2
  go_ret
  obtain ⟨ha, hk⟩ := h1.setSafe (by decide) (by rw [unhide HL]) (unhide HF) f.data.size
  exact ⟨rfl, ha.drew, hk1.trans hk.drew (fun _ _ hh => hh)⟩

theorem sync_any (B : Nat) (p : Nat) (S : DS) (fs : Value) (nm : ByteArray) (w : World) (N : Nat) (hN : N ≤ 1099511627776) (hok : DOk S N) (h : DiskAt 67 75 B w p S fs) :
    Calls Tryz.prog 75 #[.pointer (some ⟨p, 0, none⟩), .string nm] w fun e w' => e = .returned (.bool (!stoppedB S)) ∧ DiskAt 67 75 B w' p (afterSync S nm) fs ∧ Kept (foot p fs) w w' := by
  cases hs : stoppedB S
  · cases hpl : place S.files nm with
    | none => rw [afterSync_none hs hpl]; exact sync_none B p S fs nm w N hN hok hs hpl h
    | some i =>
      obtain ⟨f, hf, _, _⟩ := place_some hpl
      rw [afterSync_some hs hpl hf]
      exact sync_some B p S fs nm w N hN hok hs i f hpl hf h
  · rw [afterSync_stopped hs]
    exact sync_stopped B p S fs nm w N hN hok hs h

end Go.Proofs.YtgadceofpbfleaaGreat

/- Walks: New, Stop, Read, Has of both disks. -/
namespace Go.Proofs.YtgadceofpbfleaaGreat
open Go.RowKit
set_option linter.unusedVariables false

def newS : DS := ⟨[], -1, false⟩
set_option maxHeartbeats 400000 in
theorem new_any (B : Nat) (w : World) (hB : B ≤ w.heap.size) :
    Calls Tryz.prog 9 #[] w fun e w' => e = .returned (.pointer (some ⟨w.heap.size, 0, none⟩)) ∧ DiskAt 67 75 B w' w.heap.size newS (.slice none 0 0) ∧ Below w.heap.size w w' ∧ w'.heap.size = w.heap.size + 1 := by
  go_enter Tryz.func9, Tryz.ntmps9
  go_wp2
  go_ret
  exact ⟨rfl, ⟨heap_alloc_last _ _, hB, World.ownsRow_nil _ _ _ _⟩, (Below.refl _ _).alloc (Nat.le_refl _) _, (by simp)⟩

theorem stopAt_stopped {S : DS} {n : Int} (h : stoppedB S = true) : stopAt S n = S := by simp [stopAt, h]
theorem stopAt_neg {S : DS} {n : Int} (h : stoppedB S = false) (hn : n < 0) : stopAt S n = { S with left := -1 } := by simp [stopAt, h, hn]
theorem stopAt_pos {S : DS} {n : Int} (h : stoppedB S = false) (hn : ¬ n < 0) : stopAt S n = { S with left := n } := by simp [stopAt, h, hn]

set_option maxHeartbeats 400000 in
theorem stop_any (B : Nat) (p : Nat) (S : DS) (fs : Value) (n : Int) (w : World) (hD : DiskAt 67 75 B w p S fs) :
    Calls Tryz.prog 10 #[.pointer (some ⟨p, 0, none⟩), .int .i64 n] w fun e w' => e = .returned (.tuple #[]) ∧ DiskAt 67 75 B w' p (stopAt S n) fs ∧ Kept (foot p fs) w w' := by
  cases hs : stoppedB S
  · by_cases hn : n < 0
    · rw [stopAt_neg hs hn]
      by_cases hm : n = -1
      · subst hm
        have HST := hide (stopped_any B p S fs w hD)
        rw [hs] at HST
        clear hs
        go_enter Tryz.func10, Tryz.ntmps10
        go_wp2_with (go_at_call 11; refine (unhide HST).mono ?_; rintro e w1 ⟨rfl, rfl⟩; have c1 := hD.c1; have c2 := hD.free 1)
        go_end0
        exact ⟨rfl, hD.setLeft (by decide) (-1)⟩
      · have hm' : ¬ -1 ≤ n := by omega
        have HST := hide (stopped_any B p S fs w hD)
        rw [hs] at HST
        clear hs
        go_enter Tryz.func10, Tryz.ntmps10
        go_wp2_with (go_at_call 11; refine (unhide HST).mono ?_; rintro e w1 ⟨rfl, rfl⟩; have c1 := hD.c1; have c2 := hD.free 1)
        go_end0
        exact ⟨rfl, hD.setLeft (by decide) (-1)⟩
    · rw [stopAt_pos hs hn]
      have hm' : -1 ≤ n := by omega
      have HST := hide (stopped_any B p S fs w hD)
      rw [hs] at HST
      clear hs
      go_enter Tryz.func10, Tryz.ntmps10
      go_wp2_with (go_at_call 11; refine (unhide HST).mono ?_; rintro e w1 ⟨rfl, rfl⟩; have c1 := hD.c1; have c2 := hD.free 1)
      go_end0
      exact ⟨rfl, hD.setLeft (by decide) n⟩
  · rw [stopAt_stopped hs]
    have HST := hide (stopped_any B p S fs w hD)
    rw [hs] at HST
    clear hs
    go_enter Tryz.func10, Tryz.ntmps10
    go_wp2_with (go_at_call 11; refine (unhide HST).mono ?_; rintro e w1 ⟨rfl, rfl⟩; have c1 := hD.c1; have c2 := hD.free 1)
    go_end0
    exact ⟨rfl, hD, Kept.refl _ _⟩

theorem dret_str {a b : ByteArray} (h : a = b) : Ending.returned (.string a) = .returned (.string b) := by rw [h]

def readD (S : DS) (nm : ByteArray) : ByteArray := match place S.files nm with | some i => (match S.files[i]? with | some f => f.data | none => ⟨#[]⟩) | none => ⟨#[]⟩

set_option maxHeartbeats 400000 in
theorem read_any (B : Nat) (p : Nat) (S : DS) (fs : Value) (nm : ByteArray) (w : World) (N : Nat) (hN : N ≤ 1099511627776) (hn : S.files.length ≤ N) (h : DiskAt 67 75 B w p S fs) :
    Calls Tryz.prog 76 #[.pointer (some ⟨p, 0, none⟩), .string nm] w fun e w' => e = .returned (.string (readD S nm)) ∧ w' = w := by
  have HFI := hide (find_any B p S fs nm w N hN hn h)
  cases hpl : place S.files nm with
  | none =>
    have e1 : placeI S.files nm = -1 := by simp [placeI, hpl]
    have HR : Hid (readD S nm = ⟨#[]⟩) := by show _ = _; simp [readD, hpl]
    rw [e1] at HFI
    clear hpl e1
    go_enter Tryz.func76, Tryz.ntmps76
    go_wp2_with (go_at_call 98; refine (unhide HFI).mono ?_; rintro e w1 ⟨rfl, rfl⟩)
    go_ret
    exact ⟨dret_str (unhide HR).symm, rfl⟩
  | some i =>
    obtain ⟨f, hf, hil, _⟩ := place_some hpl
    have e1 : placeI S.files nm = i := by simp [placeI, hpl]
    have HR : Hid (readD S nm = f.data) := by show _ = _; simp [readD, hpl, hf]
    rw [e1] at HFI
    have hiz : (i : Int) < S.files.length := by omega
    have hi0 : ¬ (i : Int) < 0 := by omega
    obtain ⟨g, cap, rfl, -⟩ := h.files (by omega)
    have c0 := h.c0
    obtain ⟨x0, x1, x2, xf⟩ := h.at hf
    clear hpl e1 hf xf
    go_enter Tryz.func76, Tryz.ntmps76
    go_wp2_with (go_at_call 98; refine (unhide HFI).mono ?_; rintro e w1 ⟨rfl, rfl⟩)
    go_ret
    exact ⟨dret_str (unhide HR).symm, rfl⟩

end Go.Proofs.YtgadceofpbfleaaGreat
