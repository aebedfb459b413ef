import Derived.Test.YtpbimdkclnekeaaGreatRows
import Derived.Test.YtpbimdkclnekeaaGreatTLater
import Derived.Test.YtpbimdkclnekeaaGreatTDisk0
import Derived.WalkKit
import Derived.WalkSpells
import Derived.WalkLawsBesides

namespace Go.Proofs.YtpbimdkclnekeaaGreat
open Value (int)
open IntKind (i64)
open Go.RowKit
set_option linter.unusedVariables false
structure zaw (T e : TypeId) (B : Nat) (w : World) (p : Nat) (S : DS) (fs : Value) : Prop where
 head : w.heap[p]? = some (.cells #[fs, int i64 S.left, .bool S.down] T (0, 0))
 base : B <= p
 row : w.ownsRow B e 3 fs S.files.length (zbn S.files)
theorem dcell {w : World} {g : Nat} {cs : Array Value} {t : TypeId} {fr : Nat × Nat} (h : w.heap[g]? = some (.cells cs t fr)) (i : Nat) : w.cell? ⟨g, i, none⟩ = cs[i]? := by simp [World.cell?, h]
theorem dfree {w : World} {g : Nat} {cs : Array Value} {t : TypeId} (h : w.heap[g]? = some (.cells cs t (0, 0))) (i : Nat) : w.frozen? ⟨g, i, none⟩ = false := by simp [World.frozen?, h]
theorem dset {w : World} {g i : Nat} {cs : Array Value} {t : TypeId} {fr : Nat × Nat} (h : w.heap[g]? = some (.cells cs t fr)) (v : Value) : (w.setCell ⟨g, i, none⟩ v).heap[g]? = some (.cells (cs.setIfInBounds i v) t fr) := by
 rw [setCell_eq_setRow w g i cs t fr v h]
 exact setRow_heap w g _ _ t _ h
section
variable {T e : TypeId} {B : Nat} {w : World} {p : Nat} {S : DS} {fs : Value}
theorem zaw.c0 (h : zaw T e B w p S fs) : w.cell? ⟨p, 0, none⟩ = some fs := by rw [dcell h.head]; rfl
theorem zaw.c1 (h : zaw T e B w p S fs) : w.cell? ⟨p, 1, none⟩ = some (int i64 S.left) := by rw [dcell h.head]; rfl
theorem zaw.c2 (h : zaw T e B w p S fs) : w.cell? ⟨p, 2, none⟩ = some (.bool S.down) := by rw [dcell h.head]; rfl
theorem zaw.free (h : zaw T e B w p S fs) (i : Nat) : w.frozen? ⟨p, i, none⟩ = false := dfree h.head i
def zen (p : Nat) (fs : Value) (k : Nat) : Prop := k = p \/ fs.ownBlock = some k
theorem zaw.apart (h : zaw T e B w p S fs) (hT : T ≠ e) : fs.ownBlock ≠ some p := fun hk => by
 obtain ⟨cur, hc⟩ := zbp h.row hk
 rw [h.head] at hc
 injection hc with hc; injection hc with _ hc; exact hT hc
theorem zaw.kept {f : Nat -> Prop} {w' : World} (h : zaw T e B w p S fs) (hk : zan f w w') (hn : ∀ k, zen p fs k -> ¬ f k) : zaw T e B w' p S fs :=
 ⟨hk.heap h.head (hn p (.inl rfl)), h.base, zae h.row hk (fun k hh => hn k (.inr hh))⟩
theorem zaw.later {w' : World} (h : zaw T e B w p S fs) (hb : Below w.heap.size w w') : zaw T e B w' p S fs :=
 h.kept (f := fun _ => False) (zan.of_below hb) (fun _ _ hh => hh)
theorem zaw.lt (h : zaw T e B w p S fs) : p < w.heap.size := zaa h.head
theorem zaw.files (h : zaw T e B w p S fs) (hn : 0 < S.files.length) : ∃ g cap, fs = .slice (some ⟨g, 0, none⟩) S.files.length cap /\ B <= g /\ g < w.heap.size /\ (∀ j, w.frozen? ⟨g, j, none⟩ = false) /\
  ∀ i f, S.files[i]? = some f -> w.cell? ⟨g, i * 3, none⟩ = some (.string f.name) /\ w.cell? ⟨g, i * 3 + 1, none⟩ = some (.string f.data) /\ w.cell? ⟨g, i * 3 + 2, none⟩ = some (int i64 f.safe) := by
 obtain ⟨g, cap, hv, hb, hlt⟩ := h.row.form hn
 have hr := h.row
 rw [hv] at hr
 refine ⟨g, cap, hv, hb, hlt, fun j => hr.frozenAt j, fun i f hi => ?_⟩
 have hil : i < S.files.length := (List.getElem?_eq_some_iff.1 hi).1
 refine ⟨?_, ?_, ?_⟩
 ·rw [hr.cellAt _ (by omega), fileCells_0 _ _ _ hi]
 ·rw [hr.cellAt _ (by omega), fileCells_1 _ _ _ hi]
 ·rw [hr.cellAt _ (by omega), fileCells_2 _ _ _ hi]
theorem slice_of (h : w.ownsRow B e 3 fs S.files.length (zbn S.files)) : ∃ a cap, fs = .slice a S.files.length cap := by
 rcases h.2 with ⟨h1, h2⟩ | ⟨g, cap, _, h1, _⟩
 ·exact ⟨none, 0, by rw [h1, h2]⟩
 ·exact ⟨_, cap, h1⟩
theorem zaw.setDown (h : zaw T e B w p S fs) (hT : T ≠ e) (b : Bool) : zaw T e B (w.setCell ⟨p, 2, none⟩ (.bool b)) p { S with down := b } fs /\ zan (zen p fs) w (w.setCell ⟨p, 2, none⟩ (.bool b)) := by
 have hk : zan (zen p fs) w (w.setCell ⟨p, 2, none⟩ (.bool b)) := (zan.refl _ _).setCell (fun _ => .inl rfl) _
 have hk' : zan (fun k => k = p) w (w.setCell ⟨p, 2, none⟩ (.bool b)) := (zan.refl (fun k => k = p) w).setCell (fun _ => rfl) _
 exact ⟨⟨by rw [dset h.head]; rfl, h.base, zae h.row hk' (fun k hh hkp => h.apart hT (hkp ▸ hh))⟩, hk⟩
theorem zaw.setLeft (h : zaw T e B w p S fs) (hT : T ≠ e) (n : Int) : zaw T e B (w.setCell ⟨p, 1, none⟩ (int i64 n)) p { S with left := n } fs /\ zan (zen p fs) w (w.setCell ⟨p, 1, none⟩ (int i64 n)) := by
 have hk : zan (zen p fs) w (w.setCell ⟨p, 1, none⟩ (int i64 n)) := (zan.refl _ _).setCell (fun _ => .inl rfl) _
 have hk' : zan (fun k => k = p) w (w.setCell ⟨p, 1, none⟩ (int i64 n)) := (zan.refl (fun k => k = p) w).setCell (fun _ => rfl) _
 exact ⟨⟨by rw [dset h.head]; rfl, h.base, zae h.row hk' (fun k hh hkp => h.apart hT (hkp ▸ hh))⟩, hk⟩
end
theorem dret_bool {a b : Bool} (h : a = b) : Ending.returned (.bool a) = .returned (.bool b) := by rw [h]
theorem dret_int {k : IntKind} {a b : Int} (h : a = b) : Ending.returned (.int k a) = .returned (.int k b) := by rw [h]
set_option maxHeartbeats 400000 in
theorem zet (B : Nat) (p : Nat) (S : DS) (fs : Value) (w : World) (h : zaw 119 185 B w p S fs) :
  Calls Tryz.prog 47 #[.pointer (some ⟨p, 0, none⟩)] w fun e w' => e = .returned (.bool (zas S)) /\ w' = w := by
 have c1 := h.c1
 have c2 := h.c2
 have HS : Hid (zas S = (S.down || S.left == 0)) := rfl
 cases hd : S.down
 ·rw [hd] at c2
  go_enter Tryz.func47, Tryz.ntmps47
  go_wp2
  go_ret
  exact ⟨dret_bool (by rw [HS.out, hd]; simp), rfl⟩
 ·rw [hd] at c2
  go_enter Tryz.func47, Tryz.ntmps47
  go_wp2
  go_ret
  exact ⟨dret_bool (by rw [HS.out, hd]; simp), rfl⟩
theorem stepped_down {S : DS} (h : zas S = true) : zav S = { S with down := true } := by simp [zav, h]
theorem stepped_pos {S : DS} (h : zas S = false) (hl : 0 < S.left) : zav S = { S with left := S.left - 1 } := by simp [zav, h, hl]
theorem stepped_neg {S : DS} (h : zas S = false) (hl : ¬ 0 < S.left) : zav S = S := by simp [zav, h, hl]
set_option maxHeartbeats 400000 in
theorem step_any (B : Nat) (p : Nat) (S : DS) (fs : Value) (w : World) (hl : -1 <= S.left /\ S.left <= 9223372036854775807) (h : zaw 119 185 B w p S fs) :
  Calls Tryz.prog 173 #[.pointer (some ⟨p, 0, none⟩)] w fun e w' => e = .returned (.bool (!zas S)) /\ zaw 119 185 B w' p (zav S) fs /\ zan (zen p fs) w w' := by
 have c1 := h.c1
 have c2 := h.c2
 have hfr := h.free
 have HS : Hid (zas S = (S.down || S.left == 0)) := rfl
 cases hd : S.down
 ·rw [hd] at c2
  by_cases h0 : S.left = 0
  ·have hs : zas S = true := by simp [zas, h0]
   have hz : (S.left == 0) = true := by simp [h0]
   have HD := h.setDown (by decide) true
   rw [<- stepped_down hs] at HD
   have HD : Hid (_ /\ _) := HD
   have HR : Hid ((!zas S) = false) := by show _ = _; rw [hs]; rfl
   clear HS hs h0 h
   go_enter Tryz.func173, Tryz.ntmps173
   go_wp2
   go_ret
   exact ⟨dret_bool HR.out.symm, HD.out⟩
  ·have hs : zas S = false := by simp [zas, h0, hd]
   have hz : (S.left == 0) = false := by simp [h0]
   have HR : Hid ((!zas S) = true) := by show _ = _; rw [hs]; rfl
   by_cases hp : 0 < S.left
   ·have HD := h.setLeft (by decide) (S.left - 1)
    rw [<- stepped_pos hs hp] at HD
    have HD : Hid (_ /\ _) := HD
    clear HS hs h0 h
    go_enter Tryz.func173, Tryz.ntmps173
    go_wp2
    go_ret
    exact ⟨dret_bool HR.out.symm, HD.out⟩
   ·have HD : Hid (zaw 119 185 B w p (zav S) fs) := by show zaw _ _ _ _ _ _ _; rw [stepped_neg hs hp]; exact h
    clear HS hs h0 h
    go_enter Tryz.func173, Tryz.ntmps173
    go_wp2
    go_ret
    exact ⟨dret_bool HR.out.symm, HD.out, zan.refl _ _⟩
 ·rw [hd] at c2
  have hs : zas S = true := by simp [zas, hd]
  have HD := h.setDown (by decide) true
  rw [<- stepped_down hs] at HD
  have HD : Hid (_ /\ _) := HD
  have HR : Hid ((!zas S) = false) := by show _ = _; rw [hs]; rfl
  clear HS hs h
  go_enter Tryz.func173, Tryz.ntmps173
  go_wp2
  go_ret
  exact ⟨dret_bool HR.out.symm, HD.out⟩
set_option maxHeartbeats 1000000 in
theorem find_any (B : Nat) (p : Nat) (S : DS) (fs : Value) (nm : ByteArray) (w : World) (N : Nat) (hN : N <= 1099511627776) (hl : S.files.length <= N) (h : zaw 119 185 B w p S fs) :
  Calls Tryz.prog 174 #[.pointer (some ⟨p, 0, none⟩), .string nm] w fun e w' => e = .returned (int i64 (placeI S.files nm)) /\ w' = w := by
 have c0 := h.c0
 obtain ⟨a, cap, hfs⟩ := slice_of h.row
 subst hfs
 go_enter Tryz.func174, Tryz.ntmps174
 go_wp2
 go_loop [4, 5, 11] (fun _ _ y => ∃ (k : Nat), k <= S.files.length /\ y = int i64 k /\ ∀ j f, j < k -> S.files[j]? = some f -> eqS f.name nm = false) (fun _ _ y => S.files.length - (intOf y).toNat)
 case atStart => exact ⟨0, Nat.zero_le _, rfl, fun j f hj => absurd hj (Nat.not_lt_zero _)⟩
 case round =>
  obtain ⟨k, hk, rfl, ha⟩ := hrel
  have HA := zab ha
  clear ha
  by_cases hlt : k < S.files.length
  ·obtain ⟨g, cap', hv, _, _, _, hc⟩ := h.files (by omega)
   cases hv
   obtain ⟨f, hf⟩ := get_of_lt hlt
   obtain ⟨h1, _, _⟩ := hc k f hf
   have HF := zab hf
   have hkn : (k : Int) < S.files.length := by omega
   clear hc hf h
   cases he : eqS f.name nm
   ·have he' : (f.name.toList == nm.toList) = false := he
    have HE := zab he
    clear he
    go_wp2
    go_round
    case rel =>
     refine ⟨k + 1, by omega, by go_num, fun j f' hj hj' => ?_⟩
     by_cases e : j = k
     ·subst e; rw [ud HF] at hj'; cases hj'; exact ud HE
     ·exact ud HA j f' (by omega) hj'
    case measure => simp [intOf]; omega
   ·have hp := (placeI_some (ud HF) he (ud HA)).2
    have HP := zab hp
    have he' : (f.name.toList == nm.toList) = true := he
    clear hp he
    go_wp2
    go_ret
    exact ⟨dret_int (ud HP).symm, rfl⟩
  ·have hp := (placeI_none (l := S.files) (name := nm) (fun j f hj hf => ud HA j f (by omega) hf)).2
   have HP := zab hp
   clear hp
   go_wp2
   go_ret
   exact ⟨dret_int (ud HP).symm, rfl⟩
end Go.Proofs.YtpbimdkclnekeaaGreat
