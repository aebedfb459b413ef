import Derived.Test.YtpbimdkclnekeaaGreatRows
import Derived.Test.YtpbimdkclnekeaaGreatKLater
import Derived.Test.YtpbimdkclnekeaaGreatKDisk0
import Derived.WalkKit
import Derived.WalkSpells
import Derived.WalkLawsBesides

namespace Go.Proofs.YtpbimdkclnekeaaGreat
open Value (int)
open IntKind (i64)
open Go.RowKit
set_option linter.unusedVariables false
structure zba (T e : TypeId) (B : Nat) (w : World) (p : Nat) (S : DS) (fs : Value) : Prop where
 head : w.heap[p]? = some (.cells #[fs, int i64 S.left, .bool S.down] T (0, 0))
 base : B <= p
 row : w.ownsRow B e 3 fs S.files.length (zbr S.files)
theorem dcell {w : World} {g : Nat} {cs : Array Value} {t : TypeId} {fr : Nat × Nat} (h : w.heap[g]? = some (.cells cs t fr)) (i : Nat) : w.cell? ⟨g, i, none⟩ = cs[i]? := by simp [World.cell?, h]
theorem dfree {w : World} {g : Nat} {cs : Array Value} {t : TypeId} (h : w.heap[g]? = some (.cells cs t (0, 0))) (i : Nat) : w.frozen? ⟨g, i, none⟩ = false := by simp [World.frozen?, h]
theorem dset {w : World} {g i : Nat} {cs : Array Value} {t : TypeId} {fr : Nat × Nat} (h : w.heap[g]? = some (.cells cs t fr)) (v : Value) : (w.setCell ⟨g, i, none⟩ v).heap[g]? = some (.cells (cs.setIfInBounds i v) t fr) := by
 rw [setCell_eq_setRow w g i cs t fr v h]
 exact setRow_heap w g _ _ t _ h
section
variable {T e : TypeId} {B : Nat} {w : World} {p : Nat} {S : DS} {fs : Value}
theorem zba.c0 (h : zba T e B w p S fs) : w.cell? ⟨p, 0, none⟩ = some fs := by rw [dcell h.head]; rfl
theorem zba.c1 (h : zba T e B w p S fs) : w.cell? ⟨p, 1, none⟩ = some (int i64 S.left) := by rw [dcell h.head]; rfl
theorem zba.c2 (h : zba T e B w p S fs) : w.cell? ⟨p, 2, none⟩ = some (.bool S.down) := by rw [dcell h.head]; rfl
theorem zba.free (h : zba T e B w p S fs) (i : Nat) : w.frozen? ⟨p, i, none⟩ = false := dfree h.head i
def foot (p : Nat) (fs : Value) (k : Nat) : Prop := k = p \/ fs.ownBlock = some k
theorem zba.apart (h : zba T e B w p S fs) (hT : T ≠ e) : fs.ownBlock ≠ some p := fun hk => by
 obtain ⟨cur, hc⟩ := zbv h.row hk
 rw [h.head] at hc
 injection hc with hc; injection hc with _ hc; exact hT hc
theorem zba.kept {f : Nat -> Prop} {w' : World} (h : zba T e B w p S fs) (hk : zaj f w w') (hn : ∀ k, foot p fs k -> ¬ f k) : zba T e B w' p S fs :=
 ⟨hk.heap h.head (hn p (.inl rfl)), h.base, zah h.row hk (fun k hh => hn k (.inr hh))⟩
theorem zba.later {w' : World} (h : zba T e B w p S fs) (hb : Below w.heap.size w w') : zba T e B w' p S fs :=
 h.kept (f := fun _ => False) (zaj.of_below hb) (fun _ _ hh => hh)
theorem zba.lt (h : zba T e B w p S fs) : p < w.heap.size := zaa h.head
theorem zba.files (h : zba T e B w p S fs) (hn : 0 < S.files.length) : ∃ g cap, fs = .slice (some ⟨g, 0, none⟩) S.files.length cap /\ B <= g /\ g < w.heap.size /\ (∀ j, w.frozen? ⟨g, j, none⟩ = false) /\
  ∀ i f, S.files[i]? = some f -> w.cell? ⟨g, i * 3, none⟩ = some (.string f.name) /\ w.cell? ⟨g, i * 3 + 1, none⟩ = some (.string f.data) /\ w.cell? ⟨g, i * 3 + 2, none⟩ = some (int i64 f.safe) := by
 obtain ⟨g, cap, hv, hb, hlt⟩ := h.row.form hn
 have hr := h.row
 rw [hv] at hr
 refine ⟨g, cap, hv, hb, hlt, fun j => hr.frozenAt j, fun i f hi => ?_⟩
 have hil : i < S.files.length := (List.getElem?_eq_some_iff.1 hi).1
 refine ⟨?_, ?_, ?_⟩
 ·rw [hr.cellAt _ (by omega), fileCells_0 _ _ _ hi]
 ·rw [hr.cellAt _ (by omega), fileCells_1 _ _ _ hi]
 ·rw [hr.cellAt _ (by omega), fileCells_2 _ _ _ hi]
theorem slice_of (h : w.ownsRow B e 3 fs S.files.length (zbr S.files)) : ∃ a cap, fs = .slice a S.files.length cap := by
 rcases h.2 with ⟨h1, h2⟩ | ⟨g, cap, _, h1, _⟩
 ·exact ⟨none, 0, by rw [h1, h2]⟩
 ·exact ⟨_, cap, h1⟩
theorem zba.setDown (h : zba T e B w p S fs) (hT : T ≠ e) (b : Bool) : zba T e B (w.setCell ⟨p, 2, none⟩ (.bool b)) p { S with down := b } fs /\ zaj (foot p fs) w (w.setCell ⟨p, 2, none⟩ (.bool b)) := by
 have hk : zaj (foot p fs) w (w.setCell ⟨p, 2, none⟩ (.bool b)) := (zaj.refl _ _).setCell (fun _ => .inl rfl) _
 have hk' : zaj (fun k => k = p) w (w.setCell ⟨p, 2, none⟩ (.bool b)) := (zaj.refl (fun k => k = p) w).setCell (fun _ => rfl) _
 exact ⟨⟨by rw [dset h.head]; rfl, h.base, zah h.row hk' (fun k hh hkp => h.apart hT (hkp ▸ hh))⟩, hk⟩
theorem zba.setLeft (h : zba T e B w p S fs) (hT : T ≠ e) (n : Int) : zba T e B (w.setCell ⟨p, 1, none⟩ (int i64 n)) p { S with left := n } fs /\ zaj (foot p fs) w (w.setCell ⟨p, 1, none⟩ (int i64 n)) := by
 have hk : zaj (foot p fs) w (w.setCell ⟨p, 1, none⟩ (int i64 n)) := (zaj.refl _ _).setCell (fun _ => .inl rfl) _
 have hk' : zaj (fun k => k = p) w (w.setCell ⟨p, 1, none⟩ (int i64 n)) := (zaj.refl (fun k => k = p) w).setCell (fun _ => rfl) _
 exact ⟨⟨by rw [dset h.head]; rfl, h.base, zah h.row hk' (fun k hh hkp => h.apart hT (hkp ▸ hh))⟩, hk⟩
end
theorem dret_bool {a b : Bool} (h : a = b) : Ending.returned (.bool a) = .returned (.bool b) := by rw [h]
theorem dret_int {k : IntKind} {a b : Int} (h : a = b) : Ending.returned (.int k a) = .returned (.int k b) := by rw [h]
set_option maxHeartbeats 400000 in
theorem stopped_any (B : Nat) (p : Nat) (S : DS) (fs : Value) (w : World) (h : zba 119 185 B w p S fs) :
  Calls Tryz.prog 47 #[.pointer (some ⟨p, 0, none⟩)] w fun e w' => e = .returned (.bool (zau S)) /\ w' = w := by
 have c1 := h.c1
 have c2 := h.c2
 have HS : Hid (zau S = (S.down || S.left == 0)) := rfl
 cases hd : S.down
 ·rw [hd] at c2
  go_enter Tryz.func47, Tryz.ntmps47
  go_wp2
  go_ret
  exact ⟨dret_bool (by rw [HS.out, hd]; simp), rfl⟩
 ·rw [hd] at c2
  go_enter Tryz.func47, Tryz.ntmps47
  go_wp2
  go_ret
  exact ⟨dret_bool (by rw [HS.out, hd]; simp), rfl⟩
theorem stepped_down {S : DS} (h : zau S = true) : zaw S = { S with down := true } := by simp [zaw, h]
theorem stepped_pos {S : DS} (h : zau S = false) (hl : 0 < S.left) : zaw S = { S with left := S.left - 1 } := by simp [zaw, h, hl]
theorem stepped_neg {S : DS} (h : zau S = false) (hl : ¬ 0 < S.left) : zaw S = S := by simp [zaw, h, hl]
set_option maxHeartbeats 400000 in
theorem step_any (B : Nat) (p : Nat) (S : DS) (fs : Value) (w : World) (hl : -1 <= S.left /\ S.left <= 9223372036854775807) (h : zba 119 185 B w p S fs) :
  Calls Tryz.prog 173 #[.pointer (some ⟨p, 0, none⟩)] w fun e w' => e = .returned (.bool (!zau S)) /\ zba 119 185 B w' p (zaw S) fs /\ zaj (foot p fs) w w' := by
 have c1 := h.c1
 have c2 := h.c2
 have hfr := h.free
 have HS : Hid (zau S = (S.down || S.left == 0)) := rfl
 cases hd : S.down
 ·rw [hd] at c2
  by_cases h0 : S.left = 0
  ·have hs : zau S = true := by simp [zau, h0]
   have hz : (S.left == 0) = true := by simp [h0]
   have HD := h.setDown (by decide) true
   rw [<- stepped_down hs] at HD
   have HD : Hid (_ /\ _) := HD
   have HR : Hid ((!zau S) = false) := by show _ = _; rw [hs]; rfl
   clear HS hs h0 h
   go_enter Tryz.func173, Tryz.ntmps173
   go_wp2
   go_ret
   exact ⟨dret_bool HR.out.symm, HD.out⟩
  ·have hs : zau S = false := by simp [zau, h0, hd]
   have hz : (S.left == 0) = false := by simp [h0]
   have HR : Hid ((!zau S) = true) := by show _ = _; rw [hs]; rfl
   by_cases hp : 0 < S.left
   ·have HD := h.setLeft (by decide) (S.left - 1)
    rw [<- stepped_pos hs hp] at HD
    have HD : Hid (_ /\ _) := HD
    clear HS hs h0 h
    go_enter Tryz.func173, Tryz.ntmps173
    go_wp2
    go_ret
    exact ⟨dret_bool HR.out.symm, HD.out⟩
   ·have HD : Hid (zba 119 185 B w p (zaw S) fs) := by show zba _ _ _ _ _ _ _; rw [stepped_neg hs hp]; exact h
    clear HS hs h0 h
    go_enter Tryz.func173, Tryz.ntmps173
    go_wp2
    go_ret
    exact ⟨dret_bool HR.out.symm, HD.out, zaj.refl _ _⟩
 ·rw [hd] at c2
  have hs : zau S = true := by simp [zau, hd]
  have HD := h.setDown (by decide) true
  rw [<- stepped_down hs] at HD
  have HD : Hid (_ /\ _) := HD
  have HR : Hid ((!zau S) = false) := by show _ = _; rw [hs]; rfl
  clear HS hs h
  go_enter Tryz.func173, Tryz.ntmps173
  go_wp2
  go_ret
  exact ⟨dret_bool HR.out.symm, HD.out⟩
set_option maxHeartbeats 1000000 in
theorem find_any (B : Nat) (p : Nat) (S : DS) (fs : Value) (nm : ByteArray) (w : World) (N : Nat) (hN : N <= 1099511627776) (hl : S.files.length <= N) (h : zba 119 185 B w p S fs) :
  Calls Tryz.prog 174 #[.pointer (some ⟨p, 0, none⟩), .string nm] w fun e w' => e = .returned (int i64 (placeI S.files nm)) /\ w' = w := by
 have c0 := h.c0
 obtain ⟨a, cap, hfs⟩ := slice_of h.row
 subst hfs
 go_enter Tryz.func174, Tryz.ntmps174
 go_wp2
 go_loop [4, 5, 11] (fun _ _ y => ∃ (k : Nat), k <= S.files.length /\ y = int i64 k /\ ∀ j f, j < k -> S.files[j]? = some f -> eqS f.name nm = false) (fun _ _ y => S.files.length - (intOf y).toNat)
 case atStart => exact ⟨0, Nat.zero_le _, rfl, fun j f hj => absurd hj (Nat.not_lt_zero _)⟩
 case round =>
  obtain ⟨k, hk, rfl, ha⟩ := hrel
  have HA := zac ha
  clear ha
  by_cases hlt : k < S.files.length
  ·obtain ⟨g, cap', hv, _, _, _, hc⟩ := h.files (by omega)
   cases hv
   obtain ⟨f, hf⟩ := get_of_lt hlt
   obtain ⟨h1, _, _⟩ := hc k f hf
   have HF := zac hf
   have hkn : (k : Int) < S.files.length := by omega
   clear hc hf h
   cases he : eqS f.name nm
   ·have he' : (f.name.toList == nm.toList) = false := he
    have HE := zac he
    clear he
    go_wp2
    go_round
    case rel =>
     refine ⟨k + 1, by omega, by go_num, fun j f' hj hj' => ?_⟩
     by_cases e : j = k
     ·subst e; rw [ud HF] at hj'; cases hj'; exact ud HE
     ·exact ud HA j f' (by omega) hj'
    case measure => simp [intOf]; omega
   ·have hp := (placeI_some (ud HF) he (ud HA)).2
    have HP := zac hp
    have he' : (f.name.toList == nm.toList) = true := he
    clear hp he
    go_wp2
    go_ret
    exact ⟨dret_int (ud HP).symm, rfl⟩
  ·have hp := (placeI_none (l := S.files) (name := nm) (fun j f hj hf => ud HA j f (by omega) hf)).2
   have HP := zac hp
   clear hp
   go_wp2
   go_ret
   exact ⟨dret_int (ud HP).symm, rfl⟩
end Go.Proofs.YtpbimdkclnekeaaGreat
