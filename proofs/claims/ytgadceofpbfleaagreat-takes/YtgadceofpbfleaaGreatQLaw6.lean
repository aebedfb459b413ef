import Derived.Test.YtgadceofpbfleaaGreatQLaw3
import Derived.Test.YtgadceofpbfleaaGreatQConf5

/- Walks: the statement's opens (written by wip/mklaw6.py). -/
namespace Go.Proofs.YtgadceofpbfleaaGreat
open Go.RowKit Go.Maps Go.Shelf
set_option linter.unusedVariables false

theorem TS.keptb {w w' : World} {g off n : Nat} {F W K : Nat → Int} {f : Nat → Prop} (h : TS w (some ⟨g, off, none⟩) n F W K) (hk : Kept f w w') (hn : ¬ f g) : TS w' (some ⟨g, off, none⟩) n F W K := fun h0 => by
  obtain ⟨b, off', e, hlt, hc⟩ := h h0
  cases e
  refine ⟨g, off, rfl, Nat.lt_of_lt_of_le hlt hk.size, fun i hi => ?_⟩
  rw [kept_cell hk hn hlt, kept_cell hk hn hlt, kept_cell hk hn hlt]
  exact hc i hi

/-- a block of N cells that can be written. -/
def Rowy (w : World) (g N : Nat) : Prop := ∃ cs t, w.heap[g]? = some (.cells cs t (0, 0)) ∧ cs.size = N
theorem Rowy.set {w : World} {g N : Nat} (h : Rowy w g N) (i : Nat) (v : Value) : Rowy (w.setCell ⟨g, i, none⟩ v) g N := by
  obtain ⟨cs, t, hb, hs⟩ := h
  exact ⟨_, t, rset hb v, by simpa using hs⟩
theorem Rowy.kept {w w' : World} {g N : Nat} {f : Nat → Prop} (h : Rowy w g N) (hk : Kept f w w') (hn : ¬ f g) : Rowy w' g N := by
  obtain ⟨cs, t, hb, hs⟩ := h
  exact ⟨cs, t, (hk.block g (lt_of_heap hb) hn).trans hb, hs⟩
theorem Rowy.cell {w : World} {g N : Nat} (h : Rowy w g N) (i : Nat) (hi : i < N) : ∃ v, w.cell? ⟨g, i, none⟩ = some v := by
  obtain ⟨cs, t, hb, hs⟩ := h
  rw [cell_of_block hb]
  exact ⟨_, Array.getElem?_eq_getElem (by omega)⟩
theorem Rowy.free {w : World} {g N : Nat} (h : Rowy w g N) (i : Nat) : w.frozen? ⟨g, i, none⟩ = false := by
  obtain ⟨cs, t, hb, hs⟩ := h
  exact unfrozen_of_block hb i
theorem Rowy.lt {w : World} {g N : Nat} (h : Rowy w g N) : g < w.heap.size := by
  obtain ⟨cs, t, hb, hs⟩ := h
  exact lt_of_heap hb
theorem CF.kept {w w' : World} {g : Nat} {s le la wi ke qu : Int} {a : Option Addr} {n cap : Nat} {f : Nat → Prop} (h : CF w g s le la wi ke qu a n cap) (hk : Kept f w w') (hn : ¬ f g) : CF w' g s le la wi ke qu a n cap := by
  obtain ⟨hl, c0, c1, c2, c3, c4, c5, c6⟩ := h
  exact ⟨Nat.lt_of_lt_of_le hl hk.size, (kept_cell hk hn hl).trans c0, (kept_cell hk hn hl).trans c1, (kept_cell hk hn hl).trans c2, (kept_cell hk hn hl).trans c3, (kept_cell hk hn hl).trans c4, (kept_cell hk hn hl).trans c5, (kept_cell hk hn hl).trans c6⟩

set_option maxRecDepth 8000 in
set_option maxHeartbeats 4000000 in
theorem opens_gen (s le la wi ke qu : Int) (a : Option Addr) (n cap : Nat) (F W K : Nat → Int) (hsz : 24 * (n + 1) ≤ 281474976710656) (w : World) (p : Nat) (f : Nat → Prop) (hf : ∀ k, f k → k < w.heap.size) (hta0 : ∀ w', Kept f w w' → TS w' a n F W K)
    (R : Option Addr → Int → World → Prop) (hR : ∀ xo ec A B, Kept (fun k => k = w.heap.size + 1) A B → R xo ec A → R xo ec B)
    (HO : ∀ w4, Below w.heap.size w w4 → w.heap.size + 3 = w4.heap.size → (∀ w', Kept f w4 w' → TS w' (some ⟨w.heap.size + 1, 0, none⟩) n F W K) → Calls Tryz.prog 23 #[.agg #[.int .i64 s, .int .i64 le, .int .i64 la, .int .i64 wi, .int .i64 ke, .int .i64 qu, .slice (some ⟨w.heap.size + 1, 0, none⟩) n (n + 1)], .pointer (some ⟨p, 0, none⟩)] w4 fun e w5 => ∃ xo ec, e = .returned (.tuple #[.pointer xo, .int .i64 ec]) ∧ Kept f w4 w5 ∧ R xo ec w5) :
    Calls Tryz.prog 12 #[.agg #[.int .i64 s, .int .i64 le, .int .i64 la, .int .i64 wi, .int .i64 ke, .int .i64 qu, .slice a n cap], .pointer (some ⟨p, 0, none⟩)] w fun e w' => ∃ xo ec, e = .returned (.tuple #[.pointer xo, .int .i64 ec, .bool true]) ∧ Kept f w w' ∧ R xo ec w' := by
  have h := hta0 w (Kept.refl _ _)
  have hmk := make_tiers n hsz
  have hlt : (n : Int) < (n : Int) + 1 := by omega
  have hts : TS ((w.alloc (.cells #[.int .i64 s, .int .i64 le, .int .i64 la, .int .i64 wi, .int .i64 ke, .int .i64 qu, .slice a n cap] 35)).alloc (.cells (newTiers n) 32)) a n F W K :=
    h.below (((Below.refl _ _).alloc (Nat.le_refl _) _).alloc (by simp) _)
  obtain ⟨w3, hcp, HR, hB3, HZ⟩ : ∃ w3, (Builtin.copy_ #[33, 33] 3 #[.slice (some ⟨w.heap.size + 1, 0, none⟩) (n + 1) (n + 1), .slice a n cap]).run Tryz.prog ((w.alloc (.cells #[.int .i64 s, .int .i64 le, .int .i64 la, .int .i64 wi, .int .i64 ke, .int .i64 qu, .slice a n cap] 35)).alloc (.cells (newTiers n) 32)) = .ok (.int .i64 n) w3 ∧
      Hid (w3.heap[w.heap.size + 1]? = some (.cells (row3 n F W K ++ (newTiers n).toList.drop (n * 3)).toArray 32 (0, 0))) ∧ Below (w.heap.size + 1) ((w.alloc (.cells #[.int .i64 s, .int .i64 le, .int .i64 la, .int .i64 wi, .int .i64 ke, .int .i64 qu, .slice a n cap] 35)).alloc (.cells (newTiers n) 32)) w3 ∧ w3.heap.size = w.heap.size + 2 := by
    generalize hW : (w.alloc (.cells #[.int .i64 s, .int .i64 le, .int .i64 la, .int .i64 wi, .int .i64 ke, .int .i64 qu, .slice a n cap] 35)) = X at hts
    have hWs : X.heap.size = w.heap.size + 1 := by rw [← hW]; simp
    have hg : (X.alloc (.cells (newTiers n) 32)).heap[w.heap.size + 1]? = some (.cells (newTiers n) 32 (0, 0)) := by rw [← hWs]; exact heap_alloc_last _ _
    have hr := run_copy_wide (P := Tryz.prog) (X.alloc (.cells (newTiers n) 32)) 33 33 3 32 3 (w.heap.size + 1) (n + 1) (n + 1) a n cap (newTiers n) 32 (row3 n F W K) Tryz.underlying33 (by kernel_rfl) hg
      (by rw [row3_length]; simp) hts.cells (by rw [row3_length, size_newTiers]; omega) (row3_one n F W K)
    have hm : Nat.min n (n + 1) = n := by simp
    rw [hm, row3_length] at hr
    refine ⟨_, hr, setRow_heap _ _ _ _ _ _ hg, below_setRow (Below.refl _ _) (Nat.le_refl _) _, ?_⟩
    simp [World.setRow, hWs]
  have HS : Hid (w3.heap.size = w.heap.size + 2) := HZ
  clear HZ
  have hx : ∀ j, j < 3 → ∃ v, w3.cell? ⟨w.heap.size + 1, n * 3 + j, none⟩ = some v := fun j hj => by
    rw [cell_of_block HR.out]
    exact ⟨_, Array.getElem?_eq_getElem (by simp [row3_length, size_newTiers]; omega)⟩
  obtain ⟨v0, x0⟩ := hx 0 (by omega)
  obtain ⟨v1, x1⟩ := hx 1 (by omega)
  obtain ⟨v2, x2⟩ := hx 2 (by omega)
  have x0 : w3.cell? ⟨w.heap.size + 1, n * 3, none⟩ = some v0 := x0
  clear hx
  have hfz : ∀ o, w3.frozen? ⟨w.heap.size + 1, o, none⟩ = false := fun o => unfrozen_of_block HR.out o
  obtain ⟨_, c0, c1, c2, c3, c4, c5, c6⟩ := ((CF.made w 35 (0, 0) s le la wi ke qu a n cap).below (((Below.refl (w.heap.size + 1) _).alloc (by simp) _)) (by omega)).below hB3 (by omega)
  have ht3 : TS w3 (some ⟨w.heap.size + 1, 0, none⟩) n F W K := TS.of_row HR.out
  have hw3 : w.heap.size + 1 < w3.heap.size := by have := HS.out; omega
  have hB03 : Below w.heap.size w w3 := (((Below.refl _ _).alloc (Nat.le_refl _) _).alloc (by simp) _).trans (hB3.mono (by omega))
  have hm : ∀ (C : Array Value) (t : TypeId), TS ((((w3.setCell ⟨w.heap.size + 1, n * 3, none⟩ (.int .i64 (-77))).setCell ⟨w.heap.size + 1, n * 3 + 1, none⟩ (.int .i64 0)).setCell ⟨w.heap.size + 1, n * 3 + 2, none⟩ (.int .i64 0)).alloc (.cells C t)) (some ⟨w.heap.size + 1, 0, none⟩) n F W K ∧
      ((((w3.setCell ⟨w.heap.size + 1, n * 3, none⟩ (.int .i64 (-77))).setCell ⟨w.heap.size + 1, n * 3 + 1, none⟩ (.int .i64 0)).setCell ⟨w.heap.size + 1, n * 3 + 2, none⟩ (.int .i64 0)).alloc (.cells C t)).cell? ⟨w.heap.size + 1, n * 3, none⟩ = some (.int .i64 (-77)) ∧
      Below (w.heap.size + 1) w3 ((((w3.setCell ⟨w.heap.size + 1, n * 3, none⟩ (.int .i64 (-77))).setCell ⟨w.heap.size + 1, n * 3 + 1, none⟩ (.int .i64 0)).setCell ⟨w.heap.size + 1, n * 3 + 2, none⟩ (.int .i64 0)).alloc (.cells C t)) ∧
      ((((w3.setCell ⟨w.heap.size + 1, n * 3, none⟩ (.int .i64 (-77))).setCell ⟨w.heap.size + 1, n * 3 + 1, none⟩ (.int .i64 0)).setCell ⟨w.heap.size + 1, n * 3 + 2, none⟩ (.int .i64 0)).alloc (.cells C t)).heap.size = w3.heap.size + 1 := by
    intro C t
    have hs : (((w3.setCell ⟨w.heap.size + 1, n * 3, none⟩ (.int .i64 (-77))).setCell ⟨w.heap.size + 1, n * 3 + 1, none⟩ (.int .i64 0)).setCell ⟨w.heap.size + 1, n * 3 + 2, none⟩ (.int .i64 0)).heap.size = w3.heap.size := by simp [World.setCell]
    have hB : Below (w.heap.size + 1) w3 (((w3.setCell ⟨w.heap.size + 1, n * 3, none⟩ (.int .i64 (-77))).setCell ⟨w.heap.size + 1, n * 3 + 1, none⟩ (.int .i64 0)).setCell ⟨w.heap.size + 1, n * 3 + 2, none⟩ (.int .i64 0)) :=
      (((Below.refl (w.heap.size + 1) w3).setCell (p := ⟨w.heap.size + 1, n * 3, none⟩) (Nat.le_refl (w.heap.size + 1)) (.int .i64 (-77))).setCell (p := ⟨w.heap.size + 1, n * 3 + 1, none⟩) (Nat.le_refl (w.heap.size + 1)) (.int .i64 0)).setCell (p := ⟨w.heap.size + 1, n * 3 + 2, none⟩) (Nat.le_refl (w.heap.size + 1)) (.int .i64 0)
    have hx : (((w3.setCell ⟨w.heap.size + 1, n * 3, none⟩ (.int .i64 (-77))).setCell ⟨w.heap.size + 1, n * 3 + 1, none⟩ (.int .i64 0)).setCell ⟨w.heap.size + 1, n * 3 + 2, none⟩ (.int .i64 0)).cell? ⟨w.heap.size + 1, n * 3, none⟩ = some (.int .i64 (-77)) := by
      rw [World.cell?_setCell_other _ _ _ _ (by simp), World.cell?_setCell_other _ _ _ _ (by simp)]
      exact World.cell?_setCell_same _ _ _ x0
    have ht := ((ht3.setCell (n * 3) (.int .i64 (-77)) (by omega)).setCell (n * 3 + 1) (.int .i64 0) (by omega)).setCell (n * 3 + 2) (.int .i64 0) (by omega)
    generalize (((w3.setCell ⟨w.heap.size + 1, n * 3, none⟩ (.int .i64 (-77))).setCell ⟨w.heap.size + 1, n * 3 + 1, none⟩ (.int .i64 0)).setCell ⟨w.heap.size + 1, n * 3 + 2, none⟩ (.int .i64 0)) = Y at hs hB hx ht ⊢
    have hA : Below Y.heap.size Y (Y.alloc (.cells C t)) := (Below.refl _ _).alloc (Nat.le_refl _) _
    exact ⟨ht.below hA, (hA.cell (p := ⟨w.heap.size + 1, n * 3, none⟩) (show w.heap.size + 1 < _ by rw [hs]; omega)).trans hx, hB.trans (hA.mono (by omega)), by simp [hs]⟩
  have hfa : ¬ f (w.heap.size + 1) := fun e => by have := hf _ e; omega
  have hfw : ¬ f w.heap.size := fun e => by have := hf _ e; omega
  obtain ⟨ht4, hx4, hB4, hs4⟩ := hm #[.int .i64 s, .int .i64 le, .int .i64 la, .int .i64 wi, .int .i64 ke, .int .i64 qu, .slice (some ⟨w.heap.size + 1, 0, none⟩) n (n + 1)] 35
  have hB04 := hB03.trans (hB4.mono (by omega))
  have HOP := hide (HO _ hB04 (by rw [hs4, HS.out]) (fun w' hk => ht4.keptb hk hfa))
  have hrw3 : Rowy w3 (w.heap.size + 1) ((n + 1) * 3) := ⟨_, _, HR.out, by simp [row3_length, size_newTiers]; omega⟩
  have hrw4 : Rowy ((((w3.setCell ⟨w.heap.size + 1, n * 3, none⟩ (.int .i64 (-77))).setCell ⟨w.heap.size + 1, n * 3 + 1, none⟩ (.int .i64 0)).setCell ⟨w.heap.size + 1, n * 3 + 2, none⟩ (.int .i64 0)).alloc (.cells #[.int .i64 s, .int .i64 le, .int .i64 la, .int .i64 wi, .int .i64 ke, .int .i64 qu, .slice (some ⟨w.heap.size + 1, 0, none⟩) n (n + 1)] 35)) (w.heap.size + 1) ((n + 1) * 3) := (((hrw3.set (n * 3) (.int .i64 (-77))).set (n * 3 + 1) (.int .i64 0)).set (n * 3 + 2) (.int .i64 0)).kept (f := fun _ => False) (Kept.of_below ((Below.refl _ _).alloc (Nat.le_refl _) _)) (fun h => h)
  have HRW := hide hrw4
  have HCF := hide ((show CF w3 w.heap.size s le la wi ke qu a n cap from ⟨by omega, c0, c1, c2, c3, c4, c5, c6⟩).below hB4 (by omega))
  clear hrw3 hrw4
  have HT4 := hide ht4
  have HX4 := hide hx4
  have HB4 := hide hB4
  have HB04 := hide hB04
  have HS4 := hide hs4
  clear hm ht4 hx4 hB4 hs4 hB04 HO
  have HH := hide h
  go_enter Tryz.func12, Tryz.ntmps12
  go_wp2_with fail
  generalize ((((w3.setCell ⟨w.heap.size + 1, n * 3, none⟩ (.int .i64 (-77))).setCell ⟨w.heap.size + 1, n * 3 + 1, none⟩ (.int .i64 0)).setCell ⟨w.heap.size + 1, n * 3 + 2, none⟩ (.int .i64 0)).alloc (.cells #[.int .i64 s, .int .i64 le, .int .i64 la, .int .i64 wi, .int .i64 ke, .int .i64 qu, .slice (some ⟨w.heap.size + 1, 0, none⟩) n (n + 1)] 35)) = W4 at *
  refine (unhide HOP).mono ?_
  rintro e w5 ⟨xo, ec, rfl, hk5, hr5⟩
  have hs4 : W4.heap.size = w3.heap.size + 1 := unhide HS4
  have hs3 : w3.heap.size = w.heap.size + 2 := HS.out
  have hx5 := (kept_cell hk5 hfa (show w.heap.size + 1 < W4.heap.size by omega)).trans (unhide HX4)
  have ht5 := (unhide HT4).keptb hk5 hfa
  have hkw5 : Kept f w w5 := (Kept.of_below (f := f) (unhide HB04)).trans hk5 (fun _ _ h => h)
  have hta := hta0 w5 hkw5
  have hrw5 := (unhide HRW).kept hk5 hfa
  have hcf5 := (unhide HCF).kept hk5 hfw
  obtain ⟨hw5, c0', c1', c2', c3', c4', c5', c6'⟩ := id hcf5
  have HKW := hide hkw5
  have HRW5 := hide hrw5
  have HCF5 := hide hcf5
  have HR5 := hide hr5
  have ha5 : w.heap.size + 1 < w5.heap.size := hrw5.lt
  clear HRW HCF HT4 HX4 HB4 HB04 HS4 hkw5 hrw5 hcf5 hr5 hcp hmk x0 x1 x2 hfz ht3 hB03 hts HR HS hB3 hw3 HOP hs3 hs4 hk5 hta0 c0 c1 c2 c3 c4 c5 c6
  go_wp2_with fail
  go_loopw [12, 13] (fun x y wr => ∃ (k : Nat), k ≤ n ∧ x = .bool true ∧ y = .int .i64 k ∧ Below w5.heap.size w5 wr) (fun _ y _ => n - (intOf y).toNat)
  case atStart => exact ⟨0, Nat.zero_le _, rfl, rfl, Below.refl _ _⟩
  case round =>
    obtain ⟨k, hk, rfl, rfl, hb⟩ := hrel
    obtain ⟨_, c0, c1, c2, c3, c4, c5, c6⟩ := (unhide HCF5).below hb hw5
    have hwr : w.heap.size < wr.heap.size := Nat.lt_of_lt_of_le hw5 hb.size
    by_cases hkl : k < n
    · have ht6 := ht5.below hb
      have ha6 := hta.below hb
      obtain ⟨b0, off0, e0, hz0, hc0⟩ := ht6 (by omega)
      cases e0
      obtain ⟨b, off, rfl, hbz, hc⟩ := ha6 (by omega)
      obtain ⟨g1, g2, g3⟩ := hc0 k hkl
      simp only [Nat.zero_add] at g1 g2 g3
      obtain ⟨h1, h2, h3⟩ := hc k hkl
      have hkn : (k : Int) < n := by omega
      have hkn1 : (k : Int) < (n : Int) + 1 := by omega
      clear hc hc0
      have hne : Nonempty (Later wr.heap.size wr) := Later.some _ _
      have hlc := fun (u : Later wr.heap.size wr) b o h => u.cell b o h
      go_wp2_with fail
      refine wp_region_later wr.heap.size (by kernel_rfl) (by kernel_rfl) ?_
      repeat (go_big_quiet_step (fail))
      refine wpQuiet_nil ?_
      rintro ⟨w1, hb1⟩
      clear hlc hne
      dsimp only
      go_wp2_with fail
      go_roundw
      case rel => exact ⟨k + 1, by omega, rfl, by go_num, hb.trans (hb1.mono hb.size)⟩
      case measure => simp [intOf]; omega
    · have HBR := hide hb
      have HRWR := hide ((unhide HRW5).kept (Kept.of_below (f := fun _ => False) hb) (fun h => h))
      have HCFR := hide ((unhide HCF5).below hb hw5)
      have hkn : ¬ (k : Int) < n := by omega
      clear hb c0 c1 c2 c3 c4 c5 c6 c0' c1' c2' c3' c4' c5' c6' HRW5 HCF5 hx5 ht5 hta
      go_wp2_with fail
      go_loopw [14] (fun y wq => ∃ (k : Nat), k ≤ n + 1 ∧ y = .int .i64 k ∧ Kept (fun j => j = w.heap.size + 1) wr wq ∧ Rowy wq (w.heap.size + 1) ((n + 1) * 3)) (fun y _ => n + 1 - (intOf y).toNat)
      case atStart => exact ⟨0, Nat.zero_le _, rfl, Kept.refl _ _, unhide HRWR⟩
      case round =>
        obtain ⟨j, hj, rfl, hkq, hrq⟩ := hrel
        obtain ⟨hwq, c0, c1, c2, c3, c4, c5, c6⟩ := (unhide HCFR).kept hkq (by omega)
        by_cases hjl : j ≤ n
        · obtain ⟨v0, x0⟩ := hrq.cell (j * 3) (by omega)
          obtain ⟨v1, x1⟩ := hrq.cell (j * 3 + 1) (by omega)
          obtain ⟨v2, x2⟩ := hrq.cell (j * 3 + 2) (by omega)
          have hfz := fun o => hrq.free o
          have hjn : (j : Int) ≤ n := by omega
          have hjn1 : (j : Int) < (n : Int) + 1 := by omega
          have hal := hrq.lt
          have HKQ := hide hkq
          have HRQ := hide hrq
          clear hkq hrq
          go_wp2_with fail
          go_roundw
          case rel => exact ⟨j + 1, by omega, by go_num, kept_set (kept_set (kept_set (unhide HKQ) rfl) rfl) rfl, (((unhide HRQ).set _ _).set _ _).set _ _⟩
          case measure => simp [intOf]; omega
        · have hjn : ¬ (j : Int) ≤ n := by omega
          have HKQ := hide hkq
          clear hkq hrq c0 c1 c2 c3 c4 c5 c6
          go_wp2_with (go_at_call 24; refine (num_any _ _).mono ?_; rintro e V1 ⟨rfl, hV1⟩; rw [hV1]; clear hV1)
          have hkf : Kept (fun j => j = w.heap.size + 1) w5 wr := (Kept.of_below (f := fun j => j = w.heap.size + 1) (unhide HBR)).trans (unhide HKQ) (fun _ _ h => h)
          have hkA : Kept f w wr := (unhide HKW).trans hkf (fun i hi e => by omega)
          have hRR := hR xo ec w5 wr hkf (unhide HR5)
          (try simp only [Exit.inBlock, Exit.then])
          refine bodyPost_ret (results_tmp3 rfl _ _ _) rfl ?_
          exact ⟨xo, ec, rfl, hkA, hRR⟩
end Go.Proofs.YtgadceofpbfleaaGreat

/- Walks: the statement's opens, of a configuration that is right and of one that is not. -/
namespace Go.Proofs.YtgadceofpbfleaaGreat
open Go.RowKit Go.Maps Go.Shelf
set_option linter.unusedVariables false

theorem opens_bad (c : Cf) (hsz : 24 * (c.n + 1) ≤ 281474976710656) (hr : rightB c.s c.le c.la c.wi c.ke c.qu c.n c.F c.W c.K = false) (a : Option Addr) (cap p : Nat) (w : World) (hts : TS w a c.n c.F c.W c.K) :
    Calls Tryz.prog 12 #[.agg #[.int .i64 c.s, .int .i64 c.le, .int .i64 c.la, .int .i64 c.wi, .int .i64 c.ke, .int .i64 c.qu, .slice a c.n cap], .pointer (some ⟨p, 0, none⟩)] w fun e w' => e = .returned (.tuple #[.pointer none, .int .i64 1, .bool true]) ∧ Below w.heap.size w w' := by
  refine (opens_gen c.s c.le c.la c.wi c.ke c.qu a c.n cap c.F c.W c.K hsz w p (fun _ => False) (fun k h => h.elim) (fun w' hk => hts.below (hk.below (Nat.le_refl _) (fun k h => h.elim))) (fun xo ec _ => xo = none ∧ ec = 1) (fun xo ec A B hk h => h) (fun w4 hb hs ht => ?_)).mono ?_
  · refine (popen_bad c hr (some ⟨w.heap.size + 1, 0, none⟩) (c.n + 1) p w4 (ht w4 (Kept.refl _ _))).mono ?_
    rintro e w5 ⟨rfl, hb5⟩
    exact ⟨none, 1, rfl, Kept.of_below hb5, rfl, rfl⟩
  · rintro e w' ⟨xo, ec, rfl, hk, rfl, rfl⟩
    exact ⟨rfl, hk.below (Nat.le_refl _) (fun k h => h.elim)⟩

def opensPost (c : Cf) (B p : Nat) (fs : Value) (w : World) (e : Ending) (w' : World) : Prop :=
  ∃ x s lb gb g cap' fs', e = .returned (.tuple #[.pointer (some ⟨x, 0, none⟩), .int .i64 0, .bool true]) ∧ MillAt w' x c (.slice (some ⟨g, 0, none⟩) c.n cap') 1 0 s lb gb [] ∧ DiskAt 67 75 B w' p opS2 fs' ∧ Kept (foot p fs) w w' ∧ (∀ k, fs'.ownBlock = some k → fs.ownBlock = some k ∨ w.heap.size ≤ k) ∧ (∀ k, mfoot x s (.slice (some ⟨g, 0, none⟩) c.n cap') lb gb k → w.heap.size ≤ k ∧ ¬ foot p fs' k)

theorem opens_good (c : Cf) (hc : c.ok) (hr : rightB c.s c.le c.la c.wi c.ke c.qu c.n c.F c.W c.K = true) (a : Option Addr) (cap B p : Nat) (fs : Value) (w : World) (hB : B ≤ w.heap.size) (hd : DiskAt 67 75 B w p newS fs) (hts : ∀ w', Kept (foot p fs) w w' → TS w' a c.n c.F c.W c.K) :
    Calls Tryz.prog 12 #[.agg #[.int .i64 c.s, .int .i64 c.le, .int .i64 c.la, .int .i64 c.wi, .int .i64 c.ke, .int .i64 c.qu, .slice a c.n cap], .pointer (some ⟨p, 0, none⟩)] w (opensPost c B p fs w) := by
  have hpl := hd.lt
  have hfl : ∀ k, foot p fs k → k < w.heap.size := fun k hk => by
    rcases hk with rfl | hk
    · exact hpl
    · exact own_lt hd.row k hk
  have hn4 := hc.n4
  refine (opens_gen c.s c.le c.la c.wi c.ke c.qu a c.n cap c.F c.W c.K (by omega) w p (foot p fs) hfl hts
    (fun xo ec w' => ∃ x s lb gb g cap' fs', xo = some ⟨x, 0, none⟩ ∧ ec = 0 ∧ MillAt w' x c (.slice (some ⟨g, 0, none⟩) c.n cap') 1 0 s lb gb [] ∧ DiskAt 67 75 B w' p opS2 fs' ∧ (∀ k, fs'.ownBlock = some k → fs.ownBlock = some k ∨ w.heap.size + 3 ≤ k) ∧ (∀ k, mfoot x s (.slice (some ⟨g, 0, none⟩) c.n cap') lb gb k → w.heap.size + 3 ≤ k ∧ ¬ foot p fs' k))
    (fun xo ec A B hk h => ?_) (fun w4 hb hs ht => ?_)).mono ?_
  · obtain ⟨x, s, lb, gb, g, cap', fs', e1, e2, hm, hdk, hfs, hmf⟩ := h
    refine ⟨x, s, lb, gb, g, cap', fs', e1, e2, hm.kept hk (fun k hk e => ?_), hdk.kept hk (fun k hk e => ?_), hfs, hmf⟩
    · have := (hmf k hk).1; omega
    · rcases hk with rfl | hk
      · omega
      · rcases hfs k hk with h | h
        · have := hfl k (Or.inr h); omega
        · omega
  · refine (popen_any c hc hr (some ⟨w.heap.size + 1, 0, none⟩) (c.n + 1) B p fs w4 (by omega) (hd.later hb) ht).mono ?_
    rintro e w5 ⟨x, s, lb, gb, g, cap', fs', rfl, hm, hdk, hk, hfs, hmf⟩
    exact ⟨_, _, rfl, hk, x, s, lb, gb, g, cap', fs', rfl, rfl, hm, hdk, fun k hk => (hfs k hk).imp id (fun h => by omega), fun k hk => ⟨by have := (hmf k hk).1; omega, (hmf k hk).2⟩⟩
  · rintro e w' ⟨xo, ec, rfl, hk, x, s, lb, gb, g, cap', fs', rfl, rfl, hm, hdk, hfs, hmf⟩
    exact ⟨x, s, lb, gb, g, cap', fs', rfl, hm, hdk, hk, fun k hk => (hfs k hk).imp id (fun h => by omega), fun k hk => ⟨by have := (hmf k hk).1; omega, (hmf k hk).2⟩⟩
end Go.Proofs.YtgadceofpbfleaaGreat

/- Walks: the statement's opened (written by wip/mklaw8.py). -/
namespace Go.Proofs.YtgadceofpbfleaaGreat
open Go.RowKit Go.Maps Go.Shelf
set_option linter.unusedVariables false

theorem stop_new : stopAt newS (-1) = newS := by rfl
theorem new_free : stoppedB newS = false := by rfl

set_option maxRecDepth 8000 in
set_option maxHeartbeats 4000000 in
theorem opened_bad (c : Cf) (hsz : 24 * (c.n + 1) ≤ 281474976710656) (hr : rightB c.s c.le c.la c.wi c.ke c.qu c.n c.F c.W c.K = false) (a : Option Addr) (cap wb : Nat) (w : World) (hts : TS w a c.n c.F c.W c.K) :
    Calls Tryz.prog 6 #[.pointer (some ⟨wb, 0, none⟩), .agg #[.int .i64 c.s, .int .i64 c.le, .int .i64 c.la, .int .i64 c.wi, .int .i64 c.ke, .int .i64 c.qu, .slice a c.n cap], .int .i64 (-1)] w fun e w' => e = .returned (.bool true) ∧ Below w.heap.size w w' := by
  have hbX : Below w.heap.size w (w.alloc (.cells #[.int .i64 c.s, .int .i64 c.le, .int .i64 c.la, .int .i64 c.wi, .int .i64 c.ke, .int .i64 c.qu, .slice a c.n cap] 35)) := (Below.refl _ _).alloc (Nat.le_refl _) _
  have HCF := hide (CF.made w 35 (0, 0) c.s c.le c.la c.wi c.ke c.qu a c.n cap)
  have HXS : Hid ((w.alloc (.cells #[.int .i64 c.s, .int .i64 c.le, .int .i64 c.la, .int .i64 c.wi, .int .i64 c.ke, .int .i64 c.qu, .slice a c.n cap] 35)).heap.size = w.heap.size + 1) := rsize w _
  have HBX := hide hbX
  clear hbX
  go_enter Tryz.func6, Tryz.ntmps6
  go_wp2_with fail
  generalize (w.alloc (.cells #[.int .i64 c.s, .int .i64 c.le, .int .i64 c.la, .int .i64 c.wi, .int .i64 c.ke, .int .i64 c.qu, .slice a c.n cap] 35)) = X at *
  refine (new_any 0 X (Nat.zero_le _)).mono ?_
  rintro e w1 ⟨rfl, hd1, hb1, hs1⟩
  have HST := hide (stop_any 0 _ newS _ (-1) w1 hd1)
  rw [stop_new] at HST
  have HB1 := hide hb1
  clear hs1 hb1 hd1
  go_wp2_with fail
  refine (unhide HST).mono ?_
  rintro e w2 ⟨rfl, hd2, hk2⟩
  have HSD := hide (stopped_any 0 _ newS _ w2 hd2)
  rw [new_free] at HSD
  have hk12 : Kept (fun k => k = X.heap.size) X w2 := (Kept.of_below (f := fun k => k = X.heap.size) (unhide HB1)).trans hk2 (fun i hi e => by
    rcases e with e | e
    · exact e
    · cases e)
  have hbX2 : Below X.heap.size X w2 := hk12.below (Nat.le_refl _) (fun k e => by omega)
  have hbw2 : Below w.heap.size w w2 := (unhide HBX).trans (hbX2.mono (unhide HBX).size)
  have hXl : w.heap.size < X.heap.size := by have := unhide HXS; omega
  have HCF2 := hide ((unhide HCF).below hbX2 hXl)
  obtain ⟨_, c0, c1, c2, c3, c4, c5, c6⟩ := unhide HCF2
  have HBW2 := hide hbw2
  have HBX2 := hide hbX2
  have HD2 := hide hd2
  clear hk2 hk12 hd2 hbX2 hbw2 HST HB1
  go_wp2_with fail
  refine (unhide HSD).mono ?_
  rintro e V1 ⟨rfl, hV1⟩
  rw [hV1]
  clear hV1 HSD
  have HOP := hide (opens_bad c hsz hr a cap X.heap.size w2 (hts.below (unhide HBW2)))
  go_wp2_with fail
  refine (unhide HOP).mono ?_
  rintro e w3 ⟨rfl, hb3⟩
  have hbw3 := (unhide HBW2).trans (hb3.mono (unhide HBW2).size)
  have hl2 : w.heap.size < w2.heap.size := Nat.lt_of_lt_of_le hXl (unhide HBX2).size
  obtain ⟨_, d0, d1, d2, d3, d4, d5, d6⟩ := (unhide HCF2).below hb3 hl2
  have HRR := hide (refRight_any c.s c.le c.la c.wi c.ke c.qu a c.n cap c.F c.W c.K w3 (hts.below hbw3))
  rw [hr, show codeOf false = 1 from rfl] at HRR
  have HBW3 := hide hbw3
  clear hb3 hbw3 HOP c0 c1 c2 c3 c4 c5 c6
  go_wp2_with fail
  refine (unhide HRR).mono ?_
  rintro e w4 ⟨rfl, hb4⟩
  have HB4 := hide hb4
  clear hb4
  go_wp2_with fail
  go_ret
  exact ⟨rfl, (unhide HBW3).trans ((unhide HB4).mono (unhide HBW3).size)⟩
end Go.Proofs.YtgadceofpbfleaaGreat

/- Walks: the statement's opened, of a right configuration (written by wip/mklaw8.py). -/
namespace Go.Proofs.YtgadceofpbfleaaGreat
open Go.RowKit Go.Maps Go.Shelf
set_option linter.unusedVariables false

/-- the blocks of a post. -/
def pfoot (po x d r : Nat) (tv mv fs : Value) (s lb gb : Nat) (rt nv pv gv kv : Value) (k : Nat) : Prop := k = po ∨ mfoot x s tv lb gb k ∨ foot d fs k ∨ mv.ownBlock = some k ∨ rfoot r rt nv pv gv kv k
theorem PostW.kept {w w' : World} {f : Nat → Prop} {po x d r : Nat} {c : Cf} {ct tv mv fs : Value} {ep now : Int} {s lb gb : Nat} {L : LV} {B0 B1 : Nat} {m : RM} {rt nv pv gv kv : Value} (h : PostW w po x d r c ct tv mv fs ep now s lb gb L B0 B1 m rt nv pv gv kv) (hk : Kept f w w') (hn : ∀ k, pfoot po x d r tv mv fs s lb gb rt nv pv gv kv k → ¬ f k) : PostW w' po x d r c ct tv mv fs ep now s lb gb L B0 B1 m rt nv pv gv kv :=
  ⟨hk.heap h.head (hn po (.inl rfl)), h.mill.kept hk (fun k hh => hn k (.inr (.inl hh))), h.disk.kept hk (fun k hh => hn k (.inr (.inr (.inl hh)))), owns_kept h.may hk (fun k hh => hn k (.inr (.inr (.inr (.inl hh))))), h.ref.kept hk (fun k hh => hn k (.inr (.inr (.inr (.inr hh))))), h.sim, h.epo⟩
theorem post_make {W : World} {po x d r : Nat} {c : Cf} {ct tv mv0 fs : Value} {ep now : Int} {s lb gb : Nat} {L : LV} {B0 B1 : Nat} {m : RM} {rt nv pv gv kv : Value} {g cap : Nat} (hp4 : W.heap[po]? = some (postObj x d c ct mv0 ep)) (hm4 : MillAt W x c tv ep now s lb gb L) (hd4 : DiskAt 67 75 B0 W d opS2 fs) (hrow : W.ownsRow 0 56 1 (.slice (some ⟨g, 0, none⟩) 1 cap) 1 [.pointer (some ⟨r, 0, none⟩)]) (hr4 : RefAt B1 W r m rt nv pv gv kv) (hsim : Sim c m now L) (hepo : m.epoch = ep) :
    PostW (W.setCell ⟨po, 9, none⟩ (.slice (some ⟨g, 0, none⟩) 1 cap)) po x d r c ct tv (.slice (some ⟨g, 0, none⟩) 1 cap) fs ep now s lb gb L B0 B1 m rt nv pv gv kv := by
  have hs4 : (W.setCell ⟨po, 9, none⟩ (.slice (some ⟨g, 0, none⟩) 1 cap)).heap[po]? = some (postObj x d c ct (.slice (some ⟨g, 0, none⟩) 1 cap) ep) := by
    have hq := hp4
    unfold postObj at hq ⊢
    exact rset (i := 9) hq _
  have hkp : Kept (fun k => k = po) W (W.setCell ⟨po, 9, none⟩ (.slice (some ⟨g, 0, none⟩) 1 cap)) := kept_set (Kept.refl _ _) rfl
  have hnt := not_po hp4
  refine ⟨hs4, hm4.kept hkp (fun k hk e => ?_), hd4.kept hkp (fun k hk e => ?_), owns_kept hrow hkp (fun k hk e => ?_), hr4.kept hkp (fun k hk e => ?_), hsim, hepo⟩
  · subst e
    rcases hk with rfl | rfl | hk | rfl | rfl
    · exact hnt _ _ (by decide) hm4.head rfl
    · exact hnt _ _ (by decide) hm4.set.head rfl
    · obtain ⟨cur, hc⟩ := owns_type hm4.set.trow hk; exact hnt _ _ (by decide) hc rfl
    · obtain ⟨es, cl, hb, _⟩ := hm4.set.live; have hh := hp4; unfold postObj at hh; rw [hb] at hh; cases hh
    · have hh := hp4; unfold postObj at hh; rw [hm4.set.gone] at hh; cases hh
  · subst e
    rcases hk with rfl | hk
    · exact hnt _ _ (by decide) hd4.head rfl
    · obtain ⟨cur, hc⟩ := owns_type hd4.row hk; exact hnt _ _ (by decide) hc rfl
  · subst e
    obtain ⟨cur, hc⟩ := owns_type hrow hk; exact hnt _ _ (by decide) hc rfl
  · subst e
    rcases hk with rfl | hk | hk | hk | hk | hk
    · exact hnt _ _ (by decide) hr4.head rfl
    · obtain ⟨cur, hc⟩ := owns_type hr4.trow hk; exact hnt _ _ (by decide) hc rfl
    · obtain ⟨cur, hc⟩ := owns_type hr4.nrow hk; exact hnt _ _ (by decide) hc rfl
    · obtain ⟨cur, hc⟩ := owns_type hr4.prow hk; exact hnt _ _ (by decide) hc rfl
    · obtain ⟨cur, hc⟩ := owns_type hr4.grow hk; exact hnt _ _ (by decide) hc rfl
    · obtain ⟨cur, hc⟩ := owns_type hr4.krow hk; exact hnt _ _ (by decide) hc rfl
theorem own_base {w : World} {B : Nat} {e : TypeId} {size : Nat} {v : Value} {n : Nat} {xs : List Value} (h : w.ownsRow B e size v n xs) {k : Nat} (hk : v.ownBlock = some k) : B ≤ k := by
  rcases h.2 with ⟨rfl, _⟩ | ⟨g, cap, cur, rfl, hg, _⟩
  · cases hk
  · cases hk; exact hg

theorem Tryz.infoPostP : (Tryz.prog.info? 50).map (fun i => (i.zero, i.size, i.bytes)) = some (some (.pointer none), 1, 8) := by kernel_rfl

set_option maxRecDepth 8000 in
set_option maxHeartbeats 4000000 in
theorem opened_good (c : Cf) (hc : c.ok) (hr : rightB c.s c.le c.la c.wi c.ke c.qu c.n c.F c.W c.K = true) (a : Option Addr) (cap wb : Nat) (w : World) (hts : TS w a c.n c.F c.W c.K) {pv lv : Value} {ps : List Nat} (hw : w.heap[wb]? = some (.cells #[pv, lv] 29 (0, 0))) {Bp : Nat} (hBp : Bp ≤ w.heap.size) (hps : w.ownsRow Bp 50 1 pv ps.length (ps.map (fun q => .pointer (some ⟨q, 0, none⟩)))) (hn1 : ps.length + 1 ≤ maxLen) (hn2 : (ps.length + 1) * 8 ≤ 140737488355328) :
    Calls Tryz.prog 6 #[.pointer (some ⟨wb, 0, none⟩), .agg #[.int .i64 c.s, .int .i64 c.le, .int .i64 c.la, .int .i64 c.wi, .int .i64 c.ke, .int .i64 c.qu, .slice a c.n cap], .int .i64 (-1)] w fun e w' => e = .returned (.bool true) ∧ ∃ po x d r tv mv fs s lb gb B0 B1 rt pv', PostW w' po x d r c (.slice a c.n cap) tv mv fs 1 0 s lb gb [] B0 B1 ⟨c, 0, [], [], [], [], 1, 0⟩ rt (.slice none 0 0) (.slice none 0 0) (.slice none 0 0) (.slice none 0 0) ∧ w'.heap[wb]? = some (.cells #[pv', lv] 29 (0, 0)) ∧ w'.ownsRow Bp 50 1 pv' (ps.length + 1) ((ps ++ [po]).map (fun q => .pointer (some ⟨q, 0, none⟩))) ∧ (∀ k, pfoot po x d r tv mv fs s lb gb rt (.slice none 0 0) (.slice none 0 0) (.slice none 0 0) (.slice none 0 0) k → w.heap.size ≤ k) ∧ Kept (fun k => k = wb ∨ pv.ownBlock = some k) w w' := by
  obtain ⟨pa, pcap, rfl⟩ := row_slice hps
  have hwl := lt_of_heap hw
  have hnpb : ¬ (Value.slice pa ps.length pcap).ownBlock = some wb := fun e => by
    obtain ⟨cur, hc⟩ := owns_type hps e
    rw [hw] at hc
    injection hc with hc; injection hc with _ hc; exact absurd hc (by decide)
  have HW := hide hw
  have HPS := hide hps
  have HBQ := hide hBp
  clear hBp
  clear hw hps
  have hbX : Below w.heap.size w (w.alloc (.cells #[.int .i64 c.s, .int .i64 c.le, .int .i64 c.la, .int .i64 c.wi, .int .i64 c.ke, .int .i64 c.qu, .slice a c.n cap] 35)) := (Below.refl _ _).alloc (Nat.le_refl _) _
  have HCF := hide (CF.made w 35 (0, 0) c.s c.le c.la c.wi c.ke c.qu a c.n cap)
  have HXS : Hid ((w.alloc (.cells #[.int .i64 c.s, .int .i64 c.le, .int .i64 c.la, .int .i64 c.wi, .int .i64 c.ke, .int .i64 c.qu, .slice a c.n cap] 35)).heap.size = w.heap.size + 1) := rsize w _
  have HBX := hide hbX
  clear hbX
  go_enter Tryz.func6, Tryz.ntmps6
  go_wp2_with fail
  generalize (w.alloc (.cells #[.int .i64 c.s, .int .i64 c.le, .int .i64 c.la, .int .i64 c.wi, .int .i64 c.ke, .int .i64 c.qu, .slice a c.n cap] 35)) = X at *
  refine (new_any 0 X (Nat.zero_le _)).mono ?_
  rintro e w1 ⟨rfl, hd1, hb1, hs1⟩
  have HST := hide (stop_any 0 _ newS _ (-1) w1 hd1)
  rw [stop_new] at HST
  have HB1 := hide hb1
  clear hs1 hb1 hd1
  go_wp2_with fail
  refine (unhide HST).mono ?_
  rintro e w2 ⟨rfl, hd2, hk2⟩
  have HSD := hide (stopped_any 0 _ newS _ w2 hd2)
  rw [new_free] at HSD
  have hk12 : Kept (fun k => k = X.heap.size) X w2 := (Kept.of_below (f := fun k => k = X.heap.size) (unhide HB1)).trans hk2 (fun i hi e => by
    rcases e with e | e
    · exact e
    · cases e)
  have hbX2 : Below X.heap.size X w2 := hk12.below (Nat.le_refl _) (fun k e => by omega)
  have hbw2 : Below w.heap.size w w2 := (unhide HBX).trans (hbX2.mono (unhide HBX).size)
  have hXl : w.heap.size < X.heap.size := by have := unhide HXS; omega
  have HCF2 := hide ((unhide HCF).below hbX2 hXl)
  obtain ⟨_, c0, c1, c2, c3, c4, c5, c6⟩ := unhide HCF2
  have HBW2 := hide hbw2
  have HBX2 := hide hbX2
  have HD2 := hide hd2
  clear hk2 hk12 hd2 hbX2 hbw2 HST HB1
  go_wp2_with fail
  refine (unhide HSD).mono ?_
  rintro e V1 ⟨rfl, hV1⟩
  rw [hV1]
  clear hV1 HSD
  have hzX : w.heap.size ≤ X.heap.size := Nat.le_of_lt hXl
  have hz2 : w.heap.size ≤ w2.heap.size := (unhide HBW2).size
  have HOP := hide (opens_good c hc hr a cap 0 X.heap.size (.slice none 0 0) w2 (Nat.zero_le _) (unhide HD2) (fun w' hk => hts.below ((unhide HBW2).trans (hk.below hz2 (fun k e => by
    rcases e with e | e
    · omega
    · cases e)))))
  go_wp2_with fail
  refine (unhide HOP).mono ?_
  rintro e w3 ⟨x, s, lb, gb, g, cap', fs', rfl, hm3, hd3, hk3, hfs3, hmf3⟩
  have hb3 : Below X.heap.size w2 w3 := hk3.below (unhide HBX2).size (fun k e => by
    rcases e with e | e
    · omega
    · cases e)
  have hbw3 : Below w.heap.size w w3 := (unhide HBW2).trans (hb3.mono hzX)
  have hcf3 := (unhide HCF2).below hb3 hXl
  obtain ⟨_, d0, d1, d2, d3, d4, d5, d6⟩ := id hcf3
  have HRR := hide (refRight_any c.s c.le c.la c.wi c.ke c.qu a c.n cap c.F c.W c.K w3 (hts.below hbw3))
  rw [hr, show codeOf true = 0 from rfl] at HRR
  have HBW3 := hide hbw3
  have HCF3 := hide hcf3
  have HM3 := hide hm3
  have HD3 := hide hd3
  have HFS3 := hide hfs3
  have HMF3 := hide hmf3
  clear hm3 hd3 hk3 hfs3 hmf3 hb3 hbw3 hcf3 HOP c0 c1 c2 c3 c4 c5 c6
  go_wp2_with fail
  refine (unhide HRR).mono ?_
  rintro e w4 ⟨rfl, hb4⟩
  have hbw4 := (unhide HBW3).trans (hb4.mono (unhide HBW3).size)
  have hl3 : w.heap.size < w3.heap.size := (unhide HCF3).1
  have hcf4 := (unhide HCF3).below hb4 hl3
  obtain ⟨_, e0, e1, e2, e3, e4, e5, e6⟩ := id hcf4
  have hm4 := (unhide HM3).later hb4
  have hd4 := (unhide HD3).later hb4
  have hbp : Below w4.heap.size w4 (w4.alloc (postObj x X.heap.size c (.slice a c.n cap) (.slice none 0 0) 0)) := (Below.refl _ _).alloc (Nat.le_refl _) _
  have HTL := hide (tells_any (hm4.later hbp) hc (by decide) (by unfold i64B; decide) (by unfold i64B; decide) (by unfold i64B; decide) c (rlast w4 (postObj x X.heap.size c (.slice a c.n cap) (.slice none 0 0) 0)))
  rw [show decide ((0 : Int) < 1) = true from rfl] at HTL
  have HB4 := hide hb4
  have HBW4 := hide hbw4
  have HCF4 := hide hcf4
  have HM4 := hide hm4
  have HD4 := hide hd4
  have HBP := hide hbp
  clear hb4 hbw4 hcf4 hm4 hd4 hbp HRR d0 d1 d2 d3 d4 d5 d6
  unfold postObj at HTL
  go_wp2_with fail
  refine (unhide HTL).mono ?_
  rintro e w5 ⟨rfl, hp5, hk5⟩
  have hb45 : Below w4.heap.size w4 w5 := (unhide HBP).trans (hk5.below (unhide HBP).size (fun k e => by omega))
  have hbw5 : Below w.heap.size w w5 := (unhide HBW4).trans (hb45.mono (unhide HBW4).size)
  have hl4 : w.heap.size < w4.heap.size := (unhide HCF4).1
  have hcf5 := (unhide HCF4).below hb45 hl4
  obtain ⟨_, f0, f1, f2, f3, f4, f5, f6⟩ := id hcf5
  have p12 : w5.cell? ⟨w4.heap.size, 12, none⟩ = some (.int .i64 1) := by rw [rcell hp5]; rfl
  have HRN := hide (rnew_any c hc a cap 1 w5.drew (hts.below hbw5.drew))
  have hl5 : w.heap.size < w5.heap.size := hcf5.1
  have HCF5 := hide hcf5
  have hp5l := lt_of_heap hp5
  have HP5 := hide hp5
  have HB45 := hide hb45
  have HBW5 := hide hbw5
  clear hp5 hk5 hb45 hbw5 hcf5 HTL e0 e1 e2 e3 e4 e5 e6
  go_wp2_with fail
  go_region_held3 (fun w' => w'.cell? ⟨w.heap.size, 0, none⟩ = some (.int .i64 c.s) ∧ w'.cell? ⟨w.heap.size, 1, none⟩ = some (.int .i64 c.le) ∧ w'.cell? ⟨w.heap.size, 2, none⟩ = some (.int .i64 c.la) ∧ w'.cell? ⟨w.heap.size, 3, none⟩ = some (.int .i64 c.wi) ∧ w'.cell? ⟨w.heap.size, 4, none⟩ = some (.int .i64 c.ke) ∧ w'.cell? ⟨w.heap.size, 5, none⟩ = some (.int .i64 c.qu) ∧ w'.cell? ⟨w.heap.size, 6, none⟩ = some (.slice a c.n cap) ∧ w'.cell? ⟨w4.heap.size, 12, none⟩ = some (.int .i64 1)) (go_keep) (first
    | (go_at_call 16; refine (unhide HRN).mono ?_; rintro e w6 ⟨r, tvr, rfl, href0, hb0⟩; have hb6 : Below w5.heap.size w5 w6 := ⟨hb0.os, hb0.tape, hb0.output, hb0.size, hb0.block⟩; have HREF : Hid (RefAt w5.heap.size w6 r ⟨c, 0, [], [], [], [], 1, 0⟩ tvr (.slice none 0 0) (.slice none 0 0) (.slice none 0 0) (.slice none 0 0)) := href0; clear hb0 href0; have q12 := (hb6.cell (p := ⟨w4.heap.size, 12, none⟩) hp5l).trans p12; obtain ⟨_, h0, h1, h2, h3, h4, h5, h6⟩ := (unhide HCF5).below hb6 hl5; have HB6 := hide hb6; clear hb6))
  have hb6 := unhide HB6
  have hp6 := (hb6.block w4.heap.size (lt_of_heap (unhide HP5))).trans (unhide HP5)
  have p9 : w6.cell? ⟨w4.heap.size, 9, none⟩ = some (.slice none 0 0) := by rw [rcell hp6]; rfl
  have hp6l := lt_of_heap hp6
  have hbw6 : Below w.heap.size w w6 := (unhide HBW5).trans (hb6.mono (unhide HBW5).size)
  have hba : Below w6.heap.size w6 (w6.alloc (.cells #[.pointer (some ⟨r, 0, none⟩)] 56)) := (Below.refl _ _).alloc (Nat.le_refl _) _
  have hnw : ¬ wb = w4.heap.size := by omega
  have HBW6 := hide hbw6
  have HBA := hide hba
  clear hbw6 hba
  have hm0 : 0 < 1 := by decide
  have hm1 : 0 + 1 ≤ maxLen := by simp [maxLen]
  have hm2 : (0 + 1) * 8 ≤ 140737488355328 := by omega
  have HP6 := hide hp6
  clear hp6 hb6 HRN p12 q12 f0 f1 f2 f3 f4 f5 f6 h0 h1 h2 h3 h4 h5 h6
  go_wp2_with (first | (at_builtin; refine wpList_append_keep rfl _ _ 51 rfl 0 56 _ 1 8 Tryz.underlying51 Tryz.infoRefP rfl (by decide) (.slice none 0 0) 0 [] rfl (World.ownsRow_nil _ _ _ _) ⟨w6.heap.size, 0, none⟩ 1 1 [.pointer (some ⟨r, 0, none⟩)] rfl rfl (World.news_of_block (cs := #[.pointer (some ⟨r, 0, none⟩)]) (rlast w6 _)) (by intro u hu; simp at hu; subst hu; rfl) hm0 hm1 hm2 (Nat.zero_le _) ?_; intro g7 gcap W7 hown7 hold7 hgrow7 hat7 hlt7; have HO7 := hide hown7; have hb67 : Below w6.heap.size w6 W7 := (unhide HBA).grown hgrow7 (unhide HBA).size (fun k e => by cases e); have hbw7 : Below w.heap.size w W7 := (unhide HBW6).trans (hb67.mono (unhide HBW6).size); have hw7 := (hbw7.block wb hwl).trans (unhide HW); have k0 : W7.cell? ⟨wb, 0, none⟩ = some (.slice pa ps.length pcap) := (by rw [rcell hw7]; rfl); have kf : ∀ j, W7.frozen? ⟨wb, j, none⟩ = false := (fun j => rfree hw7 j); have hp7 := (hb67.block w4.heap.size hp6l).trans (unhide HP6); have k9 : W7.cell? ⟨w4.heap.size, 9, none⟩ = some (.slice none 0 0) := (by rw [rcell hp7]; rfl); have kp : ∀ j, W7.frozen? ⟨w4.heap.size, j, none⟩ = false := (fun j => rfree hp7 j); have hp7l := lt_of_heap hp7; have hw7l := lt_of_heap hw7; have hg7 : w6.heap.size ≤ g7 := (by rcases hat7 with h | h; cases h; rw [h]; exact (unhide HBA).size); have hzs : (W7.setCell ⟨w4.heap.size, 9, none⟩ (.slice (some ⟨g7, 0, none⟩) 1 gcap)).heap.size = W7.heap.size := (by simp [World.setCell]); have HZL : Hid (((W7.setCell ⟨w4.heap.size, 9, none⟩ (.slice (some ⟨g7, 0, none⟩) 1 gcap)).alloc (.cells #[.pointer (some ⟨w4.heap.size, 0, none⟩)] 50)).heap[W7.heap.size]? = some (.cells #[.pointer (some ⟨w4.heap.size, 0, none⟩)] 50)) := (by have h := rlast (W7.setCell ⟨w4.heap.size, 9, none⟩ (.slice (some ⟨g7, 0, none⟩) 1 gcap)) (.cells #[.pointer (some ⟨w4.heap.size, 0, none⟩)] 50); rw [hzs] at h; exact h); have HKZ : Hid (Kept (fun k => k = w4.heap.size) w ((W7.setCell ⟨w4.heap.size, 9, none⟩ (.slice (some ⟨g7, 0, none⟩) 1 gcap)).alloc (.cells #[.pointer (some ⟨w4.heap.size, 0, none⟩)] 50))) := kept_below (kept_set (Kept.of_below hbw7) rfl) ((Below.refl _ _).alloc (Nat.le_refl _) _); have HRZ : Hid (((W7.setCell ⟨w4.heap.size, 9, none⟩ (.slice (some ⟨g7, 0, none⟩) 1 gcap)).alloc (.cells #[.pointer (some ⟨w4.heap.size, 0, none⟩)] 50)).ownsRow Bp 50 1 (.slice pa ps.length pcap) ps.length (ps.map (fun q => .pointer (some ⟨q, 0, none⟩)))) := owns_kept (unhide HPS) (unhide HKZ) (fun k hk e => by have h := own_lt (unhide HPS) k hk; omega); clear hzs; have HB67 := hide hb67; have HBW7 := hide hbw7; have HW7 := hide hw7; have HP7 := hide hp7; clear hown7 hold7 hgrow7 hat7 hb67 hbw7 hw7 hp7) | (at_builtin; refine wpList_append_keep rfl _ _ 26 rfl Bp 50 _ 1 8 Tryz.underlying26 Tryz.infoPostP rfl (by decide) (.slice pa ps.length pcap) ps.length (ps.map (fun q => .pointer (some ⟨q, 0, none⟩))) rfl (unhide HRZ) ⟨W7.heap.size, 0, none⟩ 1 1 [.pointer (some ⟨w4.heap.size, 0, none⟩)] rfl rfl (World.news_of_block (cs := #[.pointer (some ⟨w4.heap.size, 0, none⟩)]) (unhide HZL)) (by intro u hu; simp at hu; subst hu; rfl) hm0 hn1 hn2 (Nat.le_trans (unhide HBQ) (unhide HKZ).size) ?_; intro g8 cap8 W8 hown8 hold8 hgrow8 hat8 hlt8; have HO8 := hide hown8; have hk8 : Kept (fun k => (Value.slice pa ps.length pcap).ownBlock = some k) ((W7.setCell ⟨w4.heap.size, 9, none⟩ (.slice (some ⟨g7, 0, none⟩) 1 gcap)).alloc (.cells #[.pointer (some ⟨w4.heap.size, 0, none⟩)] 50)) W8 := (Kept.refl _ _).grown hgrow8 (fun k e _ => e); have hwz : ((W7.setCell ⟨w4.heap.size, 9, none⟩ (.slice (some ⟨g7, 0, none⟩) 1 gcap)).alloc (.cells #[.pointer (some ⟨w4.heap.size, 0, none⟩)] 50)).heap[wb]? = _ := (unhide HKZ).heap (unhide HW) hnw; have hw8 := hk8.heap hwz hnpb; have m0 : W8.cell? ⟨wb, 0, none⟩ = some (.slice pa ps.length pcap) := (by rw [rcell hw8]; rfl); have mf : ∀ j, W8.frozen? ⟨wb, j, none⟩ = false := (fun j => rfree hw8 j); have hw8l := lt_of_heap hw8; have HK8 := hide hk8; have HW8 := hide hw8; clear hown8 hold8 hgrow8 hat8 hk8 hwz hw8) | go_in)
  have hm7 := ((((unhide HM4).later (unhide HB45)).later (unhide HB6)).later (unhide HB67))
  have hd7 := ((((unhide HD4).later (unhide HB45)).later (unhide HB6)).later (unhide HB67))
  have hr7 := (unhide HREF).later (unhide HB67)
  have hz4 : w.heap.size ≤ w4.heap.size := (unhide HBW4).size
  have hz5 : w.heap.size ≤ w5.heap.size := (unhide HBW5).size
  have hz6 : w.heap.size ≤ w6.heap.size := (unhide HBW6).size
  have hPZ := post_make (po := w4.heap.size) (d := X.heap.size) (c := c) (ct := .slice a c.n cap) (mv0 := .slice none 0 0) (unhide HP7) hm7 hd7 (unhide HO7) hr7 (sim_new c hc 1) rfl
  have hfr : ∀ k, pfoot w4.heap.size x X.heap.size r (.slice (some ⟨g, 0, none⟩) c.n cap') (.slice (some ⟨g7, 0, none⟩) 1 gcap) fs' s lb gb tvr (.slice none 0 0) (.slice none 0 0) (.slice none 0 0) (.slice none 0 0) k → w.heap.size ≤ k := fun k hk => by
    rcases hk with rfl | hk | hk | hk | hk
    · exact hz4
    · exact Nat.le_trans hz2 (unhide HMF3 k hk).1
    · rcases hk with rfl | hk
      · exact hzX
      · rcases unhide HFS3 k hk with h | h
        · cases h
        · exact Nat.le_trans hz2 h
    · cases hk; exact Nat.le_trans hz6 hg7
    · rcases hk with rfl | hk | hk | hk | hk | hk
      · exact Nat.le_trans hz5 hr7.base
      · exact Nat.le_trans hz5 (own_base hr7.trow hk)
      · cases hk
      · cases hk
      · cases hk
      · cases hk
  have hpvl := fun k hk => own_lt (unhide HPS) k hk
  have hkZA : Kept (fun k => k = wb ∨ (Value.slice pa ps.length pcap).ownBlock = some k) (W7.setCell ⟨w4.heap.size, 9, none⟩ (.slice (some ⟨g7, 0, none⟩) 1 gcap)) ((W7.setCell ⟨w4.heap.size, 9, none⟩ (.slice (some ⟨g7, 0, none⟩) 1 gcap)).alloc (.cells #[.pointer (some ⟨w4.heap.size, 0, none⟩)] 50)) := Kept.of_below ((Below.refl _ _).alloc (Nat.le_refl _) _)
  have hkZ8 : Kept (fun k => k = wb ∨ (Value.slice pa ps.length pcap).ownBlock = some k) (W7.setCell ⟨w4.heap.size, 9, none⟩ (.slice (some ⟨g7, 0, none⟩) 1 gcap)) W8 := hkZA.trans (unhide HK8) (fun k _ h => .inr h)
  have hkZ9 : Kept (fun k => k = wb ∨ (Value.slice pa ps.length pcap).ownBlock = some k) (W7.setCell ⟨w4.heap.size, 9, none⟩ (.slice (some ⟨g7, 0, none⟩) 1 gcap)) (W8.setCell ⟨wb, 0, none⟩ (.slice (some ⟨g8, 0, none⟩) (ps.length + 1) cap8)) := kept_set hkZ8 (.inl rfl)
  have hkw : Kept (fun k => k = wb ∨ (Value.slice pa ps.length pcap).ownBlock = some k) w ((W7.setCell ⟨w4.heap.size, 9, none⟩ (.slice (some ⟨g7, 0, none⟩) 1 gcap)).alloc (.cells #[.pointer (some ⟨w4.heap.size, 0, none⟩)] 50)) := ⟨(unhide HKZ).os, (unhide HKZ).tape, (unhide HKZ).output, (unhide HKZ).size, fun k hk _ => (unhide HKZ).block k hk (by omega)⟩
  have hkw9 : Kept (fun k => k = wb ∨ (Value.slice pa ps.length pcap).ownBlock = some k) w (W8.setCell ⟨wb, 0, none⟩ (.slice (some ⟨g8, 0, none⟩) (ps.length + 1) cap8)) := kept_set (hkw.trans (unhide HK8) (fun k _ h => .inr h)) (.inl rfl)
  have hrow9 : (W8.setCell ⟨wb, 0, none⟩ (.slice (some ⟨g8, 0, none⟩) (ps.length + 1) cap8)).ownsRow Bp 50 1 (.slice (some ⟨g8, 0, none⟩) (ps.length + 1) cap8) (ps.length + 1) (ps.map (fun q => .pointer (some ⟨q, 0, none⟩)) ++ [.pointer (some ⟨w4.heap.size, 0, none⟩)]) := owns_kept (unhide HO8) (kept_set (f := fun k => k = wb) (Kept.refl _ _) rfl) (fun k hk e => by
    obtain ⟨cur, hcu⟩ := owns_type (unhide HO8) hk
    have hq := unhide HW8
    rw [e, hq] at hcu
    injection hcu with hcu; injection hcu with _ hcu; exact absurd hcu (by decide))
  have hP9 := hPZ.kept hkZ9 (fun k hk e => by
    have h1 := hfr k hk
    rcases e with e | e
    · omega
    · have := hpvl k e; omega)
  have hw9 := rset (i := 0) (unhide HW8) (.slice (some ⟨g8, 0, none⟩) (ps.length + 1) cap8)
  go_ret
  exact ⟨rfl, w4.heap.size, x, X.heap.size, r, _, _, _, s, lb, gb, _, _, tvr, _, hP9, hw9, by rw [List.map_append]; exact hrow9, hfr, hkw9⟩
end Go.Proofs.YtgadceofpbfleaaGreat
