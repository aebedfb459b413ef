/- Walk: act. -/
import Derived.Test.YtndhpgciopcncaaShelf5
import Derived.Deep.RegionHeld3
namespace Go.Proofs.Ytndhpgciopcncaa
open Go.RowKit
set_option linter.unusedVariables false

section
variable {B X N K pw : Nat} {w : World} {its : List Item} {kn : List (Value × ByteArray)} {lv nv mv : Value} {it : Item}

theorem told_any (h : Shelf B X N w pw its kn lv nv mv) (hN : N ≤ 1000000000000) (hi0 : its.length ≤ K) (hk0 : kn.length ≤ 4 * K) (hK : K ≤ 200000000) (hn0 : ∀ x ∈ kn, ∀ a n cap, x.1 = .slice a n cap → n ≤ N + 3) (i : Nat) (hi : its[i]? = some it) (kd on a : Int) (ha : a ≤ 9223372036854775807) (n s : ByteArray) :
    Calls Try.prog 22 #[.pointer (some ⟨pw, 0, none⟩), .agg #[.pointer (some ⟨it.p, 0, none⟩), .pointer (some ⟨it.q, 0, none⟩)], .agg #[.int .i64 kd, .int .i64 on, .int .i64 a, .string n, .string s]] w fun e w' => e = .returned (.bool true) ∧ Good B N (K + 1) pw w w' := by
  by_cases h6 : kd = 6
  · subst h6
    exact (told_read h (by omega) i hi on a n s).mono fun e w' ⟨h1, h2⟩ => ⟨h1, Good.same h hi0 hk0 hn0 h2 (Nat.le_refl _) (by omega)⟩
  by_cases h7 : kd = 7
  · subst h7
    refine (told_names h hN (by omega) (by omega) i hi on a n s).mono fun e w' ⟨h1, kn', nv', mv', h2, h3, h4, h5⟩ => ⟨h1, its, kn', lv, nv', mv', h2, by omega, by omega, fun x hx => ?_, h5⟩
    rcases h4 x hx with hh | hh
    · exact hn0 x hh
    · exact hh
  by_cases h8 : kd = 8
  · subst h8
    exact (told_stop h hN i hi on a ha n s).mono fun e w' ⟨h1, its', h2, h3, h4⟩ => ⟨h1, its', kn, lv, nv, mv, h2, by omega, by omega, hn0, h4⟩
  by_cases h9 : kd = 9
  · subst h9
    exact (told_stopped h hN i hi on a n s).mono fun e w' ⟨h1, h2⟩ => ⟨h1, Good.same h hi0 hk0 hn0 h2 (Nat.le_refl _) (by omega)⟩
  by_cases h10 : kd = 10
  · subst h10
    exact (told_crash h hN (by omega) (by omega) i hi on a n s).mono fun e w' ⟨h1, its', lv', h2, h3, h4⟩ => ⟨h1, its', kn, lv', nv, mv, h2, by omega, by omega, hn0, h4⟩
  exact (told_other kd on a n s (by omega) it w).mono fun e w' ⟨h1, h2⟩ => ⟨h1, Good.same h hi0 hk0 hn0 h2 (Nat.le_refl _) (by omega)⟩

set_option maxHeartbeats 4000000 in
theorem act_new (h : Shelf B X N w pw its kn lv nv mv) (hil : its.length ≤ 1000000000) (on a : Int) (n s : ByteArray) :
    Calls Try.prog 7 #[.pointer (some ⟨pw, 0, none⟩), .agg #[.int .i64 1, .int .i64 on, .int .i64 a, .string n, .string s]] w fun e w' => e = .returned (.bool true) ∧ ∃ its' lv', Shelf B w'.heap.size N w' pw its' kn lv' nv mv ∧ its'.length = its.length + 1 ∧ Below B w w' := by
  obtain ⟨alv, clv, hlv⟩ := owns_slice h.lrow
  subst hlv
  have bb : Below w.heap.size w (w.alloc (.cells #[.int .i64 1, .int .i64 on, .int .i64 a, .string n, .string s] 39)) := (Below.refl _ _).alloc (Nat.le_refl _) _
  generalize hW : w.alloc (.cells #[.int .i64 1, .int .i64 on, .int .i64 a, .string n, .string s] 39) = W at bb
  have hs := h.later (bb.mono h.XW)
  have hBW0 : B ≤ w.heap.size := Nat.le_trans h.BX h.XW
  have hBW : B ≤ W.heap.size := Nat.le_trans hBW0 bb.size
  have HR := hide (new_any B W hBW)
  have HW := hide hW
  have HS := hide hs
  clear hW
  go_enter Try.func7, Try.ntmps7
  go_wp2_with fail
  rw [unhide HW]
  refine (unhide HR).mono ?_
  rintro e W1 ⟨rfl, d1, k1, z1⟩
  have hz1 := k1.size
  have HRR := hide (rnew_any B W1 (by omega))
  go_wp2_with fail
  refine (unhide HRR).mono ?_
  rintro e W2 ⟨rfl, d2, k2, z2⟩
  have hz2 := k2.size
  have hXW : X ≤ W.heap.size := hs.XW
  have hsW2 : Shelf B X N W2 pw its kn (.slice alv its.length clv) nv mv := ((unhide HS).later (k1.mono hXW)).later (k2.mono (Nat.le_trans hXW hz1))
  have dd1 : DiskAt 58 64 B W2 W.heap.size newS (.slice none 0 0) := d1.belowX k2 d1.lt (ownLt_of d1.row) (Nat.le_refl _)
  have c0 : W2.cell? ⟨pw, 0, none⟩ = some (.slice alv its.length clv) := by rw [dcell hsW2.head]; rfl
  have hBW2 : B ≤ W2.heap.size := Nat.le_trans hsW2.BX hsW2.XW
  clear z1 z2
  go_wp2_with (first
    | (at_builtin; refine push_pair rfl _ _ rfl B (.slice alv its.length clv) its ⟨W.heap.size, .slice none 0 0, W1.heap.size, .slice none 0 0, newS⟩ rfl (hsW2.lrow.alloc _) W2.heap.size rfl (heap_alloc_last _ _) ?hll ?hbb ?_; (case hll => omega); (case hbb => (rw [size_first]; omega)); intro g3 cap3 W3 ol rl ltl; have hpw2 := lt_of_heap hsW2.head; have p3 : W3.heap[pw]? = W2.heap[pw]? := (rl.block pw (by rw [size_first]; omega) (fun e => by obtain ⟨c, hc⟩ := owns_type hsW2.lrow e.symm; exact absurd (block_type hsW2.head hc) (by decide))).trans (Below.heap_alloc _ _ _ hpw2); have n0 : W3.cell? ⟨pw, 0, none⟩ = some (.slice alv its.length clv) := (World.cell?_of_block (a := ⟨pw, 0, none⟩) p3).trans c0; have n1 : W3.frozen? ⟨pw, 0, none⟩ = false := (World.frozen?_of_block (a := ⟨pw, 0, none⟩) p3).trans (dfree hsW2.head 0))
    | fail)
  go_ret
  have hpX := hsW2.pX
  have h3 := p3.trans hsW2.head
  have ks : Kept (fun k => k = pw) W3 (W3.setCell ⟨pw, 0, none⟩ (.slice (some ⟨g3, 0, none⟩) (its.length + 1) cap3)) := (Kept.refl (fun k => k = pw) W3).setCell (fun _ => rfl) _
  have ol2 := owns_kept ol ks (fun k hk hkp => by
    subst hkp; obtain ⟨c, hc⟩ := owns_type ol hk; exact absurd (block_type h3 hc) (by decide))
  have hk0 : Kept (fun k => k = pw ∨ (Value.slice alv its.length clv).ownBlock = some k) W2 (W3.setCell ⟨pw, 0, none⟩ (.slice (some ⟨g3, 0, none⟩) (its.length + 1) cap3)) := (((Kept.refl _ _).alloc _).grown rl (fun k hk _ => .inr hk)).setCell (fun _ => .inl rfl) _
  have far : ∀ k, W.heap.size ≤ k → ¬ (k = pw ∨ (Value.slice alv its.length clv).ownBlock = some k) := fun k hk hh => by
    rcases hh with rfl | hh
    · omega
    · have := hsW2.lX k hh; omega
  have i1 := dd1.kept hk0 (fun k hk => far k (hk.elim (fun e => by omega) (fun e => by cases e)))
  have i2 := d2.kept hk0 (fun k hk => far k (hk.elim (fun e => by omega) (fun e => by cases e)))
  have hadd := hsW2.add hk0 (by rw [dset h3]; rfl) ol2 (it := ⟨W.heap.size, .slice none 0 0, W1.heap.size, .slice none 0 0, newS⟩) ⟨i1, i2, i1.lt, i2.lt, ownLt_of i1.row, ownLt_of i2.row, ⟨show (-1 : Int) ≤ -1 by omega, show (-1 : Int) ≤ 9223372036854775807 by omega, Nat.zero_le _, fun f hf => by cases hf⟩⟩ hXW (Nat.le_trans hXW hz1) (fun k hk => by cases hk) (fun k hk => by cases hk)
  refine ⟨rfl, _, _, hadd, by simp, ?_⟩
  refine (((bb.mono hBW0).trans (k1.mono hBW)).trans (k2.mono (by omega))).trans (hk0.below hBW2 (fun k hk => ?_))
  rcases hk with rfl | hk
  · exact hsW2.base
  · exact (hsW2.lrow.lt k hk).1

set_option maxHeartbeats 1000000 in
theorem act_empty (h : Shelf B X N w pw its kn lv nv mv) (h0 : its.length = 0) (kd on a : Int) (hk1 : kd ≠ 1) (n s : ByteArray) :
    Calls Try.prog 7 #[.pointer (some ⟨pw, 0, none⟩), .agg #[.int .i64 kd, .int .i64 on, .int .i64 a, .string n, .string s]] w fun e w' => e = .returned (.bool true) ∧ Below w.heap.size w w' := by
  obtain ⟨alv, clv, hlv⟩ := owns_slice h.lrow
  subst hlv
  rw [h0] at h
  have hp := lt_of_heap h.head
  have c0 : w.cell? ⟨pw, 0, none⟩ = some (.slice alv 0 clv) := by rw [dcell h.head]; rfl
  have k1 : (kd == 1) = false := beq_eq_false_iff_ne.2 hk1
  go_enter Try.func7, Try.ntmps7
  go_wp2
  go_ret
  exact ⟨rfl, (Below.refl _ _).alloc (Nat.le_refl _) _⟩
end
end Go.Proofs.Ytndhpgciopcncaa
