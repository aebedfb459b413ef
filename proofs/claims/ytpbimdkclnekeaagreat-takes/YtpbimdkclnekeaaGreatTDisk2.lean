import Derived.Test.YtpbimdkclnekeaaGreatTDisk1
import Derived.Deep.WholeRow

namespace Go.Proofs.YtpbimdkclnekeaaGreat
open Value (int)
open IntKind (i64)
open Go.RowKit
set_option linter.unusedVariables false
theorem Tryz.infoFile : (Tryz.prog.info? 185).map (fun i => (i.zero, i.size, i.bytes)) = some (some (.agg #[.string ByteArray.empty, .string ByteArray.empty, int i64 0]), 3, 40) := by kernel_rfl
section
variable {T e : TypeId} {B : Nat} {w : World} {p : Nat} {S : DS} {fs : Value}
theorem zaw.at {g n cap : Nat} (h : zaw T e B w p S (.slice (some ⟨g, 0, none⟩) n cap)) {i : Nat} {f : FS} (hf : S.files[i]? = some f) :
  w.cell? ⟨g, i * 3, none⟩ = some (.string f.name) /\ w.cell? ⟨g, i * 3 + 1, none⟩ = some (.string f.data) /\ w.cell? ⟨g, i * 3 + 2, none⟩ = some (int i64 f.safe) /\ (∀ j, w.frozen? ⟨g, j, none⟩ = false) := by
 obtain ⟨g', cap', hv, _, _, hz, hc⟩ := h.files (by have := (List.getElem?_eq_some_iff.1 hf).1; omega)
 injection hv with h1 h2 h3
 injection h1 with h1
 injection h1 with h1
 subst h1
 obtain ⟨x, y, z⟩ := hc i f hf
 exact ⟨x, y, z, hz⟩
theorem zaw.setData (h : zaw T e B w p S fs) (hT : T ≠ e) {g cap : Nat} (hfs : fs = .slice (some ⟨g, 0, none⟩) S.files.length cap) {i : Nat} {f : FS} (hf : S.files[i]? = some f) (d : ByteArray) :
  zaw T e B (w.setCell ⟨g, i * 3 + 1, none⟩ (.string d)) p { S with files := S.files.set i { f with data := d } } fs /\ zan (zen p fs) w (w.setCell ⟨g, i * 3 + 1, none⟩ (.string d)) := by
 have hg : fs.ownBlock = some g := by rw [hfs]; rfl
 have hne : p ≠ g := fun e => h.apart hT (e ▸ hg)
 have hr := h.row
 rw [hfs] at hr
 have hs := hr.stored (i * 3 + 1) (.string d)
 rw [<- fileCells_set1 _ _ _ d hf] at hs
 refine ⟨⟨?_, h.base, ?_⟩, (zan.refl (zen p fs) w).setCell (fun _ => .inr hg) _⟩
 ·rw [Below.heap_setCell _ _ _ _ hne]; exact h.head
 ·rw [hfs]; simpa using hs.1
theorem zaw.setSafe (h : zaw T e B w p S fs) (hT : T ≠ e) {g cap : Nat} (hfs : fs = .slice (some ⟨g, 0, none⟩) S.files.length cap) {i : Nat} {f : FS} (hf : S.files[i]? = some f) (d : Nat) :
  zaw T e B (w.setCell ⟨g, i * 3 + 2, none⟩ (int i64 d)) p { S with files := S.files.set i { f with safe := d } } fs /\ zan (zen p fs) w (w.setCell ⟨g, i * 3 + 2, none⟩ (int i64 d)) := by
 have hg : fs.ownBlock = some g := by rw [hfs]; rfl
 have hne : p ≠ g := fun e => h.apart hT (e ▸ hg)
 have hr := h.row
 rw [hfs] at hr
 have hs := hr.stored (i * 3 + 2) (int i64 d)
 rw [<- fileCells_set2 _ _ _ d hf] at hs
 refine ⟨⟨?_, h.base, ?_⟩, (zan.refl (zen p fs) w).setCell (fun _ => .inr hg) _⟩
 ·rw [Below.heap_setCell _ _ _ _ hne]; exact h.head
 ·rw [hfs]; simpa using hs.1
theorem zaw.setFiles {w0 : World} (h : zaw T e B w0 p S fs) (hT : T ≠ e) (hk : zan (zen p fs) w0 w) (hp : w.heap[p]? = w0.heap[p]?) {v' : Value} {l : List FS} (hrow : w.ownsRow B e 3 v' l.length (zbn l)) :
  zaw T e B (w.setCell ⟨p, 0, none⟩ v') p { S with files := l } v' /\ zan (zen p fs) w0 (w.setCell ⟨p, 0, none⟩ v') := by
 have hh : w.heap[p]? = some (.cells #[fs, int i64 S.left, .bool S.down] T (0, 0)) := hp.trans h.head
 have hk' : zan (fun k => k = p) w (w.setCell ⟨p, 0, none⟩ v') := (zan.refl (fun k => k = p) w).setCell (fun _ => rfl) _
 refine ⟨⟨by rw [dset hh]; rfl, h.base, zae hrow hk' (fun k hko hkp => ?_)⟩, hk.setCell (fun _ => .inl rfl) _⟩
 subst hkp
 obtain ⟨cur, hc⟩ := zbp hrow hko
 rw [hh] at hc
 injection hc with hc; injection hc with _ hc; exact hT hc
end
def zee (S : DS) (name data : ByteArray) : DS := if zas S then zav S else appended (zav S) name data
theorem zbe (S : DS) : (zav S).files = S.files := by unfold zav; split <;> rfl
theorem afterAppend_some {S : DS} {nm dt : ByteArray} {i : Nat} {f : FS} (hs : zas S = false) (hpl : place S.files nm = some i) (hf : S.files[i]? = some f) : zee S nm dt = { zav S with files := (zav S).files.set i { f with data := f.data ++ dt } } := by
 simp [zee, hs, appended, zbe, hpl, hf]
theorem afterAppend_none {S : DS} {nm dt : ByteArray} (hs : zas S = false) (hpl : place S.files nm = none) : zee S nm dt = { zav S with files := (zav S).files ++ [⟨nm, dt, 0⟩] } := by
 simp [zee, hs, appended, zbe, hpl]
theorem afterAppend_stopped {S : DS} {nm dt : ByteArray} (hs : zas S = true) : zee S nm dt = zav S := by simp [zee, hs]
set_option maxHeartbeats 1000000 in
theorem append_stopped (B : Nat) (p : Nat) (S : DS) (fs : Value) (nm dt : ByteArray) (w : World) (hl1 : -1 <= S.left) (hl2 : S.left <= 9223372036854775807) (hs : zas S = true) (h : zaw 119 185 B w p S fs) :
  Calls Tryz.prog 121 #[.pointer (some ⟨p, 0, none⟩), .string nm, .string dt] w fun e w' => e = .returned (.bool false) /\ zaw 119 185 B w' p (zav S) fs /\ zan (zen p fs) w w' := by
 have HST := zab (step_any B p S fs w ⟨hl1, hl2⟩ h)
 rw [hs] at HST
 clear hs
 go_enter Tryz.func121, Tryz.ntmps121
 go_wp2_with (go_at_call 173; refine (ud HST).mono ?_; rintro e w1 ⟨rfl, h1, hk1⟩)
 go_ret
 exact ⟨rfl, h1, hk1⟩
set_option maxHeartbeats 1000000 in
theorem append_some (B : Nat) (p : Nat) (S : DS) (fs : Value) (nm dt : ByteArray) (w : World) (N : Nat) (hN : N <= 1099511627776) (hok : DOk S N) (hdt : dt.size <= 1099511627776) (hs : zas S = false) (i : Nat) (f : FS) (hpl : place S.files nm = some i) (hf : S.files[i]? = some f) (h : zaw 119 185 B w p S fs) :
  Calls Tryz.prog 121 #[.pointer (some ⟨p, 0, none⟩), .string nm, .string dt] w fun e w' => e = .returned (.bool true) /\ zaw 119 185 B w' p { zav S with files := (zav S).files.set i { f with data := f.data ++ dt } } fs /\ zan (zen p fs) w w' := by
 obtain ⟨hl1, hl2, hn, hall⟩ := hok
 have HST := zab (step_any B p S fs w ⟨hl1, hl2⟩ h)
 rw [hs] at HST
 have hil : i < S.files.length := (List.getElem?_eq_some_iff.1 hf).1
 have hiz : (i : Int) < S.files.length := by omega
 have hi0 : ¬ (i : Int) < 0 := by omega
 have hfd := (hall f (List.mem_of_getElem? hf)).2
 have hsum : f.data.size + dt.size <= 9223372036854775807 := by omega
 have hadd := fun wx => run_string_add_sum (P := Tryz.prog) (w := wx) f.data dt hsum
 have HPI : Hid (placeI (zav S).files nm = i) := by show _ = _; simp [placeI, zbe, hpl]
 have hf1 : (zav S).files[i]? = some f := by rw [zbe]; exact hf
 have HF := zab hf1
 have hlen : (zav S).files.length <= N := by rw [zbe]; exact hn
 have HL : Hid (S.files.length = (zav S).files.length) := by show _ = _; rw [zbe]
 obtain ⟨g, cap, rfl, -⟩ := h.files (by omega)
 clear hs hpl hf1 hall
 go_enter Tryz.func121, Tryz.ntmps121
 go_wp2_with (first
  | (go_at_call 173; refine (ud HST).mono ?_; rintro e w1 ⟨rfl, h1, hk1⟩; have c0 := h1.c0; obtain ⟨x0, x1, x2, xf⟩ := h1.at (ud HF))
  | (go_at_call 174; refine (find_any B p (zav S) _ nm _ N hN hlen h1).mono ?_; rintro e w2 ⟨rfl, rfl⟩; rw [ud HPI]))
 go_ret
 obtain ⟨ha, hk⟩ := h1.setData (by decide) (by rw [ud HL]) (ud HF) (f.data ++ dt)
 exact ⟨rfl, ha, hk1.trans hk (fun _ _ hh => hh)⟩
theorem nothing_append (d : ByteArray) : (⟨#[]⟩ ++ d : ByteArray) = d := by
 cases d with
 | mk data => apply ByteArray.ext; simp
theorem pushed_row {w : World} {B : Nat} {e : TypeId} {v : Value} {l : List FS} {f : FS} {n : Nat} (hn : n = l.length) (h : w.ownsRow B e 3 v (n + 1) (zbn l ++ [.string f.name, .string f.data, int i64 f.safe])) : w.ownsRow B e 3 v (l ++ [f]).length (zbn (l ++ [f])) := by
 subst hn
 rw [fileCells_append]; simpa [zbn] using h
set_option maxHeartbeats 1000000 in
theorem append_none (B : Nat) (p : Nat) (S : DS) (fs : Value) (nm dt : ByteArray) (w : World) (N : Nat) (hN : N <= 1099511627776) (hok : DOk S N) (hdt : dt.size <= 1099511627776) (hB : B <= w.heap.size) (hs : zas S = false) (hpl : place S.files nm = none) (h : zaw 119 185 B w p S fs) :
  Calls Tryz.prog 121 #[.pointer (some ⟨p, 0, none⟩), .string nm, .string dt] w fun e w' => e = .returned (.bool true) /\ ∃ fs', zaw 119 185 B w' p { zav S with files := (zav S).files ++ [⟨nm, dt, 0⟩] } fs' /\ zan (zen p fs) w w' /\ ∀ k, fs'.ownBlock = some k -> fs.ownBlock = some k \/ w.heap.size <= k := by
 obtain ⟨hl1, hl2, hn, hall⟩ := hok
 have HST := zab (step_any B p S fs w ⟨hl1, hl2⟩ h)
 rw [hs] at HST
 have HPI : Hid (placeI (zav S).files nm = -1) := by show _ = _; simp [placeI, zbe, hpl]
 have hlen : (zav S).files.length <= N := by rw [zbe]; exact hn
 have HL : Hid ((zav S).files.length = S.files.length) := by show _ = _; rw [zbe]
 obtain ⟨a, cap0, rfl⟩ := slice_of h.row
 have hadd := fun wx => run_string_add_sum (P := Tryz.prog) (w := wx) ⟨#[]⟩ dt (by show 0 + dt.size <= _; omega)
 clear hs hpl hall h
 go_enter Tryz.func121, Tryz.ntmps121
 go_wp2_with (first
  | (at_builtin
     refine zbg rfl _ _ 117 rfl B 185 _ 3 40 Tryz.underlying117 Tryz.infoFile rfl (by decide) (.slice a S.files.length cap0) S.files.length (zbn (zav S).files) rfl ?hown ⟨w2.heap.size, 0, none⟩ 1 1 [.string nm, .string ⟨#[]⟩, int i64 0] rfl rfl ?hnews ?h1 (by decide) ?h63 ?hbytes ?hbase ?_
     case hown => (have := h1.row; rw [ud HL] at this; exact this.alloc _)
     case hnews => exact World.news_of_block (heap_alloc_last _ _)
     case h1 => (intro u hu; simp at hu; rcases hu with rfl | rfl | rfl <;> rfl)
     case h63 => (simp only [maxLen]; omega)
     case hbytes => omega
     case hbase => (have := hk1.size; simp; omega)
     intro g cap w3 hown hold hgrow hat hlt
     have hp1 := h1.lt
     have hp3 : w3.heap[p]? = w2.heap[p]? := (hgrow.block p (by simp; omega) (fun e => h1.apart (by decide) e.symm)).trans (Below.heap_alloc _ _ _ hp1)
     have hk3 : zan (zen p (.slice a S.files.length cap0)) w2 w3 := ((zan.refl _ _).alloc _).grown hgrow (fun k hk _ => .inr hk)
     have hrow := pushed_row (f := ⟨nm, ⟨#[]⟩, 0⟩) (ud HL).symm hown
     obtain ⟨hD, hK⟩ := h1.setFiles (by decide) hk3 hp3 hrow
     have e0 := hD.c0
     obtain ⟨e1, e2, e3, e4⟩ := hD.at (i := S.files.length) (f := ⟨nm, ⟨#[]⟩, 0⟩) (by simp [ud HL])
     have d0 : w3.cell? ⟨p, 0, none⟩ = _ := (World.cell?_of_block (a := ⟨p, 0, none⟩) hp3).trans h1.c0
     have d1 : w3.frozen? ⟨p, 0, none⟩ = false := (World.frozen?_of_block (a := ⟨p, 0, none⟩) hp3).trans (h1.free 0))
  | (go_at_call 173; refine (ud HST).mono ?_; rintro e w1 ⟨rfl, h1, hk1⟩; have c0 := h1.c0)
  | (go_at_call 174; refine (find_any B p (zav S) _ nm _ N hN hlen h1).mono ?_; rintro e w2 ⟨rfl, rfl⟩; rw [ud HPI]))
 go_ret
 obtain ⟨ha, hk⟩ := hD.setData (by decide) (g := g) (cap := cap) (by simp [ud HL]) (i := S.files.length) (f := ⟨nm, ⟨#[]⟩, 0⟩) (by simp [ud HL]) (⟨#[]⟩ ++ dt)
 refine ⟨rfl, .slice (some ⟨g, 0, none⟩) (S.files.length + 1) cap, ?_, hk1.trans (hK.trans hk (fun k hlt' hh => ?_)) (fun _ _ hh => hh), fun k hk' => ?_⟩
 ·rw [nothing_append] at ha ⊢
  have e : ((zav S).files ++ [(⟨nm, ⟨#[]⟩, 0⟩ : FS)]).set S.files.length ⟨nm, dt, 0⟩ = (zav S).files ++ [⟨nm, dt, 0⟩] := by
   rw [<- ud HL]; simp
  rw [<- e]; exact ha
 ·rcases hh with rfl | hh
  ·exact .inl rfl
  ·simp [Value.ownBlock] at hh
   subst hh
   rcases hat with hat | hat
   ·exact .inr hat
   ·simp at hat; omega
 ·simp [Value.ownBlock] at hk'
  subst hk'
  rcases hat with hat | hat
  ·exact .inl hat
  ·right; have := hk1.size; simp at hat; omega
theorem append_any (B : Nat) (p : Nat) (S : DS) (fs : Value) (nm dt : ByteArray) (w : World) (N : Nat) (hN : N <= 1099511627776) (hok : DOk S N) (hdt : dt.size <= 1099511627776) (hB : B <= w.heap.size) (h : zaw 119 185 B w p S fs) :
  Calls Tryz.prog 121 #[.pointer (some ⟨p, 0, none⟩), .string nm, .string dt] w fun e w' => e = .returned (.bool (!zas S)) /\ ∃ fs', zaw 119 185 B w' p (zee S nm dt) fs' /\ zan (zen p fs) w w' /\ ∀ k, fs'.ownBlock = some k -> fs.ownBlock = some k \/ w.heap.size <= k := by
 cases hs : zas S
 ·cases hpl : place S.files nm with
  | none => rw [afterAppend_none hs hpl]; exact append_none B p S fs nm dt w N hN hok hdt hB hs hpl h
  | some i =>
   obtain ⟨f, hf, _, _⟩ := place_some hpl
   rw [afterAppend_some hs hpl hf]
   exact (append_some B p S fs nm dt w N hN hok hdt hs i f hpl hf h).mono fun e w' ⟨h1, h2, h3⟩ => ⟨h1, fs, h2, h3, fun k hk => .inl hk⟩
 ·rw [afterAppend_stopped hs]
  exact (append_stopped B p S fs nm dt w hok.1 hok.2.1 hs h).mono fun e w' ⟨h1, h2, h3⟩ => ⟨h1, fs, h2, h3, fun k hk => .inl hk⟩
end Go.Proofs.YtpbimdkclnekeaaGreat
