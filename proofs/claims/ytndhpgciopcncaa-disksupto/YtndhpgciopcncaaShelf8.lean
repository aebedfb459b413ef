/- Walk: Disks. -/
import Derived.Test.YtndhpgciopcncaaShelf7
import Derived.Test.YtndhpgciopcncaaConf3
namespace Go.Proofs.Ytndhpgciopcncaa
open Go.RowKit
set_option linter.unusedVariables false

theorem Good.widen {B N K pw : Nat} {w w' : World} (h : Good B N K pw w w') {N' K' : Nat} (hN : N ≤ N') (hK : K ≤ K') : Good B N' K' pw w w' := by
  obtain ⟨its, kn, lv, nv, mv, h1, h2, h3, h4, h5⟩ := h
  exact ⟨its, kn, lv, nv, mv, h1.widen (Nat.le_refl _) (Nat.le_refl _) hN, by omega, by omega, fun x hx a n cap e => by have := h4 x hx a n cap e; omega, h5⟩
theorem Good.later {B N K pw : Nat} {w0 w w' : World} (h : Good B N K pw w0 w) (hb : Below w.heap.size w w') : Good B N K pw w0 w' := by
  obtain ⟨its, kn, lv, nv, mv, h1, h2, h3, h4, h5⟩ := h
  exact ⟨its, kn, lv, nv, mv, (h1.later hb).widen hb.size (Nat.le_refl _) (Nat.le_refl _), h2, h3, h4, h5.trans (hb.mono h1.BX)⟩

theorem act_any {B N K pw : Nat} {w0 w : World} (hg : Good B N K pw w0 w) (hN : N ≤ 1000000000000) (hK : K ≤ 200000000) (kd on a : Int) (hon : -9223372036854775808 ≤ on ∧ on ≤ 9223372036854775807) (ha : a ≤ 9223372036854775807) (n s : ByteArray) (hss : s.size ≤ 1048576) :
    Calls Try.prog 7 #[.pointer (some ⟨pw, 0, none⟩), .agg #[.int .i64 kd, .int .i64 on, .int .i64 a, .string n, .string s]] w fun e w' => e = .returned (.bool true) ∧ Good B (N + 1048577) (K + 1) pw w0 w' := by
  have hg0 := hg
  obtain ⟨its, kn, lv, nv, mv, h, hi, hk, hn, hb⟩ := hg
  by_cases h1 : kd = 1
  · subst h1
    exact (act_new h (by omega) on a n s).mono fun e w' ⟨e1, its', lv', e2, e3, e4⟩ => ⟨e1, its', kn, lv', nv, mv, e2.widen (Nat.le_refl _) (Nat.le_refl _) (by omega), by omega, by omega, fun x hx a n cap e => by have := hn x hx a n cap e; omega, hb.trans e4⟩
  by_cases h0 : its.length = 0
  · exact (act_empty h h0 kd on a h1 n s).mono fun e w' ⟨e1, e2⟩ => ⟨e1, (hg0.later e2).widen (by omega) (by omega)⟩
  by_cases h2 : kd = 2
  · subst h2
    exact (act_append h hN hi hk hK hn (by omega) on a hon ha n s hss).mono fun e w' ⟨e1, e2⟩ => ⟨e1, e2.after hb⟩
  by_cases h3 : kd = 3
  · subst h3
    exact (act_sync h hN hi hk hK hn (by omega) on a hon ha n s hss).mono fun e w' ⟨e1, e2⟩ => ⟨e1, e2.after hb⟩
  by_cases h4 : kd = 4
  · subst h4
    exact (act_rename h hN hi hk hK hn (by omega) on a hon ha n s hss).mono fun e w' ⟨e1, e2⟩ => ⟨e1, e2.after hb⟩
  by_cases h5 : kd = 5
  · subst h5
    exact (act_remove h hN hi hk hK hn (by omega) on a hon ha n s hss).mono fun e w' ⟨e1, e2⟩ => ⟨e1, e2.after hb⟩
  exact (act_told h hN hi hk hK hn (by omega) kd (by omega) on a hon ha n s hss).mono fun e w' ⟨e1, e2⟩ => ⟨e1, (e2.after hb).widen (by omega) (by omega)⟩

theorem looks_good {B N K pw : Nat} {w0 w : World} (hg : Good B N K pw w0 w) (hN : N ≤ 1000000000000) (hK : K ≤ 200000000) :
    Calls Try.prog 8 #[.pointer (some ⟨pw, 0, none⟩)] w fun e w' => e = .returned (.bool true) ∧ Good B N K pw w0 w' := by
  have hg0 := hg
  obtain ⟨its, kn, lv, nv, mv, h, hi, hk, hn, hb⟩ := hg
  exact (looks_any h (by omega) (fun v m hx a n cap e => by have := hn _ hx a n cap e; omega)).mono fun e w' ⟨e1, e2⟩ => ⟨e1, hg0.later e2⟩

theorem per_le {k n : Nat} (h : k < n) (hn : n ≤ 200000) : k * 1048577 + 1048577 ≤ 1000000000000 := by
  have h2 : (k + 1) * 1048577 ≤ 200000 * 1048577 := Nat.mul_le_mul_right _ (by omega)
  rw [Nat.add_mul, Nat.one_mul] at h2
  exact Nat.le_trans h2 (by decide)
theorem per_le0 {k n : Nat} (h : k < n) (hn : n ≤ 200000) : k * 1048577 ≤ 1000000000000 := Nat.le_trans (Nat.le_add_right _ 1048577) (per_le h hn)

/-- A script in memory. -/
def AS (w : World) (a : Option Addr) (n : Nat) (Kd On Aa : Nat → Int) (Nm Ss : Nat → ByteArray) : Prop :=
  0 < n → ∃ b off, a = some ⟨b, off, none⟩ ∧ b < w.heap.size ∧ ∀ i, i < n → w.cell? ⟨b, off + i * 5, none⟩ = some (.int .i64 (Kd i)) ∧ w.cell? ⟨b, off + i * 5 + 1, none⟩ = some (.int .i64 (On i)) ∧ w.cell? ⟨b, off + i * 5 + 2, none⟩ = some (.int .i64 (Aa i)) ∧ w.cell? ⟨b, off + i * 5 + 3, none⟩ = some (.string (Nm i)) ∧ w.cell? ⟨b, off + i * 5 + 4, none⟩ = some (.string (Ss i))

theorem code_yes : codeOf (rightB 1 1 0 1 0 9 1 (fun _ => -1) (fun _ => 1) (fun _ => 0)) = 0 := by decide
theorem code_no : codeOf (rightB 0 0 0 0 0 0 0 (fun _ => 0) (fun _ => 0) (fun _ => 0)) = 1 := by decide

set_option maxHeartbeats 4000000 in
theorem disks_any (a : Option Addr) (n cap : Nat) (Kd On Aa : Nat → Int) (Nm Ss : Nat → ByteArray) (w : World) (h : AS w a n Kd On Aa Nm Ss) (hn : n ≤ 200000) (hon : ∀ i, i < n → -9223372036854775808 ≤ On i ∧ On i ≤ 9223372036854775807) (ha : ∀ i, i < n → Aa i ≤ 9223372036854775807) (hss : ∀ i, i < n → (Ss i).size ≤ 1048576) :
    Calls Try.prog 3 #[.slice a n cap] w fun e w' => e = .returned (.bool true) ∧ Below w.heap.size w w' := by
  have ht1 : TS (w.alloc (.cells #[.int .i64 (-1), .int .i64 1, .int .i64 0] 26)) (some ⟨w.heap.size, 0, none⟩) 1 (fun _ => -1) (fun _ => 1) (fun _ => 0) := fun _ => by
    have hb : (w.alloc (.cells #[.int .i64 (-1), .int .i64 1, .int .i64 0] 26)).heap[w.heap.size]? = some (.cells #[.int .i64 (-1), .int .i64 1, .int .i64 0] 26 (0, 0)) := heap_alloc_last _ _
    refine ⟨w.heap.size, 0, rfl, by rw [size_first]; omega, fun i hi => ?_⟩
    obtain rfl : i = 0 := by omega
    exact ⟨by rw [dcell hb]; rfl, by rw [dcell hb]; rfl, by rw [dcell hb]; rfl⟩
  have HM1 := hide (millRight_any 1 1 0 1 0 9 (some ⟨w.heap.size, 0, none⟩) 1 1 (fun _ => -1) (fun _ => 1) (fun _ => 0) _ ht1)
  rw [code_yes] at HM1
  have bb1 : Below w.heap.size w (w.alloc (.cells #[.int .i64 (-1), .int .i64 1, .int .i64 0] 26)) := (Below.refl _ _).alloc (Nat.le_refl _) _
  have BB1 := hide bb1
  clear bb1 ht1
  go_enter Try.func3, Try.ntmps3
  go_wp2_with fail
  refine (unhide HM1).mono ?_
  rintro e w1 ⟨rfl, k1⟩
  have hb1 : Below w.heap.size w w1 := (unhide BB1).trans (k1.mono (unhide BB1).size)
  have HM2 := hide (millRight_any 0 0 0 0 0 0 none 0 0 (fun _ => 0) (fun _ => 0) (fun _ => 0) w1 (fun h => absurd h (Nat.lt_irrefl _)))
  rw [code_no] at HM2
  go_wp2_with (first
    | (go_at_call 5; refine (unhide HM2).mono ?_; rintro e w2 ⟨rfl, k2⟩)
    | (go_at_call 6; refine (num_any _ _).mono ?_; rintro e w3 ⟨rfl, rfl⟩))
  have hb3 : Below w.heap.size w w3 := hb1.trans (k2.mono hb1.size)
  have hz3 := hb3.size
  have hg0 : Good w.heap.size (0 * 1048577) 0 w3.heap.size w (w3.alloc (.cells #[.slice none 0 0, .slice none 0 0, .slice none 0 0] 36)) := by
    refine ⟨[], [], _, _, _, ⟨heap_alloc_last _ _, hz3, by rw [size_first]; omega, Nat.le_refl _, by rw [size_first]; omega, owns_nil _ _ _ _, owns_nil _ _ _ _, owns_nil _ _ _ _, (fun k hk => by cases hk), (fun k hk => by cases hk), (fun k hk => by cases hk), (fun i it hi => by simp at hi), (fun i j a b _ hi _ => by simp at hi), (fun x hx => by cases hx)⟩, Nat.le_refl _, Nat.le_refl _, fun x hx => by (cases hx), hb3.alloc hz3 _⟩
  have HG0 := hide hg0
  clear k1 k2 hg0
  go_loopw [5, 7, 8] (fun x y _ wr => ∃ (k : Nat), k ≤ n ∧ x = .bool true ∧ y = .int .i64 k ∧ Good w.heap.size (k * 1048577) k w3.heap.size w wr) (fun _ y _ _ => n - (intOf y).toNat)
  case atStart => exact ⟨0, Nat.zero_le _, rfl, rfl, unhide HG0⟩
  case round =>
    obtain ⟨k, hk, rfl, rfl, hg⟩ := hrel
    have hgb : Below w.heap.size w wr := by obtain ⟨_, _, _, _, _, _, _, _, _, hh⟩ := hg; exact hh
    by_cases hlt : k < n
    · obtain ⟨b, off, rfl, hbz, hc⟩ := h (by omega)
      obtain ⟨x0, x1, x2, x3, x4⟩ := hc k hlt
      have y0 := (hgb.cell (p := ⟨b, off + k * 5, none⟩) hbz).trans x0
      have y1 := (hgb.cell (p := ⟨b, off + k * 5 + 1, none⟩) hbz).trans x1
      have y2 := (hgb.cell (p := ⟨b, off + k * 5 + 2, none⟩) hbz).trans x2
      have y3 := (hgb.cell (p := ⟨b, off + k * 5 + 3, none⟩) hbz).trans x3
      have y4 := (hgb.cell (p := ⟨b, off + k * 5 + 4, none⟩) hbz).trans x4
      have hkn : (k : Int) < n := by omega
      have hNk := per_le0 hlt hn
      have hNk2 := per_le hlt hn
      have hK2 : k + 1 ≤ 200000000 := by omega
      have HACT := hide (act_any hg hNk (by omega) (Kd k) (On k) (Aa k) (hon k hlt) (ha k hlt) (Nm k) (Ss k) (hss k hlt))
      clear hc x0 x1 x2 x3 x4
      go_wp2_with (first
        | (go_at_call 7; refine (unhide HACT).mono ?_; rintro e w5 ⟨rfl, hg5⟩)
        | (go_at_call 8; refine (looks_good hg5 hNk2 hK2).mono ?_; rintro e w6 ⟨rfl, hg6⟩))
      have e : (k + 1) * 1048577 = k * 1048577 + 1048577 := by rw [Nat.add_mul, Nat.one_mul]
      have HG6 : Hid (Good w.heap.size ((k + 1) * 1048577) (k + 1) w3.heap.size w w6) := by show Good _ _ _ _ _ _; rw [e]; exact hg6
      go_roundw
      case rel => exact ⟨k + 1, by omega, rfl, by go_num, unhide HG6⟩
      case measure => simp [intOf]; omega
    · go_wp2
      go_ret
      exact ⟨rfl, hgb⟩
end Go.Proofs.Ytndhpgciopcncaa
