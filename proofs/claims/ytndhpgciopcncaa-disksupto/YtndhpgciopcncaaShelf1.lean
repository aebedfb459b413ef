/- Walks: pick, looks; append that says whether the row went on or a new one was made. -/
import Derived.Test.YtndhpgciopcncaaShelf0
namespace Go.Proofs.Ytndhpgciopcncaa
open Go.RowKit
set_option linter.unusedVariables false

def pickI (c n : Int) : Int := (if c < 0 then -(c + 1) else c) % n
theorem pickI_bd (c n : Int) (hn : 0 < n) : 0 ≤ pickI c n ∧ pickI c n < n := ⟨Int.emod_nonneg _ (by omega), Int.emod_lt_of_pos _ hn⟩

set_option maxHeartbeats 400000 in
theorem pick_any (c n : Int) (w : World) (hc : -9223372036854775808 ≤ c ∧ c ≤ 9223372036854775807) (hn : 0 < n ∧ n ≤ 1099511627776) :
    Calls Try.prog 13 #[.int .i64 c, .int .i64 n] w fun e w' => e = .returned (.int .i64 (pickI c n)) ∧ w' = w := by
  obtain ⟨hc1, hc2⟩ := hc
  obtain ⟨hn1, hn2⟩ := hn
  by_cases h : c < 0
  · have HP : Hid (pickI c n = (-(c + 1)) % n) := by show _ = _; simp [pickI, h]
    go_enter Try.func13, Try.ntmps13
    go_wp2
    go_ret
    exact ⟨dret_int (by rw [unhide HP, ← Int.neg_tmod, Int.tmod_eq_emod_of_nonneg (by omega)]), rfl⟩
  · have HP : Hid (pickI c n = c % n) := by show _ = _; simp [pickI, h]
    go_enter Try.func13, Try.ntmps13
    go_wp2
    go_ret
    exact ⟨dret_int (unhide HP).symm, rfl⟩

set_option maxHeartbeats 2000000 in
theorem looks_any {B X N : Nat} {w : World} {pw : Nat} {its : List Item} {kn : List (Value × ByteArray)} {lv nv mv : Value} (h : Shelf B X N w pw its kn lv nv mv) (hkn : kn.length ≤ 1099511627776) (hall : ∀ v m, (v, m) ∈ kn → ∀ a n cap, v = .slice a n cap → n ≤ 1099511627776) :
    Calls Try.prog 8 #[.pointer (some ⟨pw, 0, none⟩)] w fun e w' => e = .returned (.bool true) ∧ Below w.heap.size w w' := by
  obtain ⟨an, capn, hnv⟩ := owns_slice h.nrow
  obtain ⟨am, capm, hmv⟩ := owns_slice h.mrow
  subst hnv
  subst hmv
  have c1 : w.cell? ⟨pw, 1, none⟩ = some (.slice an kn.length capn) := by rw [dcell h.head]; rfl
  have c2 : w.cell? ⟨pw, 2, none⟩ = some (.slice am kn.length capm) := by rw [dcell h.head]; rfl
  go_enter Try.func8, Try.ntmps8
  go_wp2
  go_loopw [2, 3, 4] (fun _ y _ wr => ∃ (k : Nat), k ≤ kn.length ∧ y = .int .i64 k ∧ ∃ nq, wr = w.drewN nq) (fun _ y _ _ => kn.length - (intOf y).toNat)
  case atStart => exact ⟨0, Nat.zero_le _, rfl, 0, rfl⟩
  case round =>
    obtain ⟨k, hk, rfl, nq, rfl⟩ := hrel
    by_cases hlt : k < kn.length
    · obtain ⟨x, hx⟩ : ∃ x, kn[k]? = some x := ⟨_, List.getElem?_eq_getElem hlt⟩
      obtain ⟨gn, capn', hn', -, -⟩ := h.nrow.form (by omega)
      obtain ⟨gm, capm', hm', -, -⟩ := h.mrow.form (by omega)
      injection hn' with hn1 hn2 hn3
      injection hm' with hm1 hm2 hm3
      subst hn1
      subst hm1
      clear hn2 hn3 hm2 hm3
      obtain ⟨v, m⟩ := x
      have hmem := List.mem_of_getElem? hx
      obtain ⟨⟨n, hv⟩, -, -⟩ := h.marks _ hmem
      obtain ⟨av, capv, hvv⟩ := owns_slice hv
      dsimp only at hvv hv
      subst hvv
      have hnn := hall _ _ hmem _ _ _ rfl
      have d1 : w.cell? ⟨gn, k, none⟩ = some (.slice av n capv) := by rw [h.nrow.cellAt _ (by omega)]; simp [hx]
      have d2 : w.cell? ⟨gm, k, none⟩ = some (.string m) := by rw [h.mrow.cellAt _ (by omega)]; exact nmCells_get (by simp [hx])
      have hkn' : (k : Int) < kn.length := by omega
      clear hx hmem
      go_wp2
      go_loopw [2, 4] (fun _ y wr => ∃ (j : Nat), j ≤ n ∧ y = .int .i64 j ∧ ∃ nq, wr = w.drewN nq) (fun _ y _ => n - (intOf y).toNat)
      case atStart => exact ⟨0, Nat.zero_le _, rfl, nq, rfl⟩
      case round =>
        obtain ⟨j, hj, rfl, nq2, rfl⟩ := hrel
        by_cases hjl : j < n
        · obtain ⟨gv, capv', hv', -, -⟩ := hv.form (by omega)
          injection hv' with hv1 hv2 hv3
          subst hv1
          have d3 : w.cell? ⟨gv, j, none⟩ = some (.string m) := by rw [hv.cellAt _ (by omega)]; exact nmCells_get (by simp [hjl])
          have hjn : (j : Int) < n := by omega
          clear hv2 hv3
          go_wp2_with fail
          go_quiet (fail)
          go_wp2_with fail
          exact ⟨⟨j + 1, by omega, by go_num, _, rfl⟩, by simp [intOf]; omega⟩
        · go_wp2_with fail
          exact ⟨⟨k + 1, by omega, by go_num, _, rfl⟩, by simp [intOf]; omega⟩
    · go_wp2
      go_ret
      exact ⟨rfl, below_drewN (Below.refl _ _) _⟩
end Go.Proofs.Ytndhpgciopcncaa
