import Derived.Test.YtgadceofpbfleaaGreatQConf2
import Derived.Test.YtgadceofpbfleaaGreatQWide

/- Walk: righted, Rights. -/
namespace Go.Proofs.YtgadceofpbfleaaGreat
open Go.RowKit

theorem Tryz.infoTier : (Tryz.prog.info? 32).map (fun i => (i.zero, i.size, i.bytes)) = some (some (.agg #[.int .i64 0, .int .i64 0, .int .i64 0]), 3, 24) := by kernel_rfl

def newTiers (n : Nat) : Array Value := madeCells #[.int .i64 0, .int .i64 0, .int .i64 0] ((n + 1) * 3)
theorem size_newTiers (n : Nat) : (newTiers n).size = (n + 1) * 3 := size_madeCells _ _

theorem make_tiers (n : Nat) (hb : 24 * (n + 1) ≤ 281474976710656) (wx : World) :
    (Instr.makeSlice 33 (.int .i64 ((n : Int) + 1)) (.int .i64 ((n : Int) + 1))).run Tryz.prog wx = .ok (.slice (some ⟨wx.heap.size, 0, none⟩) (n + 1) (n + 1)) (wx.alloc (.cells (newTiers n) 32)) := by
  have hi := Tryz.infoTier
  cases hq : Tryz.prog.info? 32 with
  | none => simp [hq] at hi
  | some i =>
    simp only [hq, Option.map_some, Option.some.injEq, Prod.mk.injEq] at hi
    obtain ⟨hz, hs, hbt⟩ := hi
    have hr := run_make (P := Tryz.prog) wx 33 32 i _ Tryz.underlying33 hq hz .i64 .i64 ((n : Int) + 1) ((n : Int) + 1) (by omega) (by omega) (by rw [hbt]; omega) (by omega)
    rw [hr, hs]
    have e : ((n : Int) + 1).toNat = n + 1 := by omega
    rw [e]; rfl

theorem cell_of_block {w : World} {g : Nat} {cs : Array Value} {t : TypeId} {fr : Nat × Nat} (h : w.heap[g]? = some (.cells cs t fr)) (i : Nat) : w.cell? ⟨g, i, none⟩ = cs[i]? := by simp [World.cell?, h]
theorem unfrozen_of_block {w : World} {g : Nat} {cs : Array Value} {t : TypeId} (h : w.heap[g]? = some (.cells cs t (0, 0))) (i : Nat) : w.frozen? ⟨g, i, none⟩ = false := by simp [World.frozen?, h]

theorem TS.cells {w : World} {a : Option Addr} {n : Nat} {F W K : Nat → Int} (h : TS w a n F W K) : 0 < (row3 n F W K).length → ∃ ad, a = some ad ∧ ∀ j v, (row3 n F W K)[j]? = some v → w.cell? (ad.add j) = some v := by
  intro h0
  rw [row3_length] at h0
  obtain ⟨b, off, rfl, _, hc⟩ := h (by omega)
  refine ⟨_, rfl, fun j v hv => ?_⟩
  have hj : j < n * 3 := by
    have := (List.getElem?_eq_some_iff.1 hv).1; rwa [row3_length] at this
  rw [row3_get n F W K j hj] at hv
  cases hv
  have hadd : (⟨b, off, none⟩ : Addr).add j = ⟨b, off + j, none⟩ := by unfold Addr.add; split <;> simp_all
  rw [hadd]
  obtain ⟨c0, c1, c2⟩ := hc (j / 3) (by omega)
  rcases (show j % 3 = 0 ∨ j % 3 = 1 ∨ j % 3 = 2 by omega) with e | e | e
  · have ej : j = j / 3 * 3 := by omega
    rw [ej, cell3_0]; exact c0
  · have ej : j = j / 3 * 3 + 1 := by omega
    rw [ej, cell3_1]; exact c1
  · have ej : j = j / 3 * 3 + 2 := by omega
    rw [ej, cell3_2]; exact c2

/-- a row of triples and something behind it, as a list of tiers. -/
theorem TS.of_row {w : World} {g n : Nat} {F W K : Nat → Int} {r : List Value} {t : TypeId} {fr : Nat × Nat} (hg : w.heap[g]? = some (.cells (row3 n F W K ++ r).toArray t fr)) : TS w (some ⟨g, 0, none⟩) n F W K := fun _ => by
  have hlt : g < w.heap.size := (Array.getElem?_eq_some_iff.1 hg).1
  refine ⟨g, 0, rfl, hlt, fun i hi => ?_⟩
  have e : ∀ j, j < n * 3 → w.cell? ⟨g, j, none⟩ = some (cell3 F W K j) := fun j hj => by
    simp only [World.cell?, hg]
    simp [List.getElem?_append_left (show j < (row3 n F W K).length by rw [row3_length]; exact hj), row3_get n F W K j hj]
  simp only [Nat.zero_add]
  refine ⟨?_, ?_, ?_⟩
  · rw [e _ (by omega), cell3_0]
  · rw [e _ (by omega), cell3_1]
  · rw [e _ (by omega), cell3_2]

theorem TS.setCell {w : World} {g off n : Nat} {F W K : Nat → Int} (h : TS w (some ⟨g, off, none⟩) n F W K) (o : Nat) (v : Value) (ho : off + n * 3 ≤ o) : TS (w.setCell ⟨g, o, none⟩ v) (some ⟨g, off, none⟩) n F W K := fun h0 => by
  obtain ⟨b, off', e, hlt, hc⟩ := h h0
  cases e
  refine ⟨g, off, rfl, by simpa [World.setCell] using hlt, fun i hi => ?_⟩
  have hne : ∀ o', o' < o → (w.setCell ⟨g, o, none⟩ v).cell? ⟨g, o', none⟩ = w.cell? ⟨g, o', none⟩ := fun o' h' => World.cell?_setCell_other _ _ _ _ (by intro e; cases e; exact absurd h' (Nat.lt_irrefl _))
  rw [hne _ (by omega), hne _ (by omega), hne _ (by omega)]
  exact hc i hi

set_option maxHeartbeats 1000000 in
theorem righted_any (s le la wi ke qu : Int) (a : Option Addr) (n cap : Nat) (F W K : Nat → Int) (hsz : 24 * (n + 1) ≤ 281474976710656) (w : World) (h : TS w a n F W K) :
    Calls Tryz.prog 17 #[.agg #[.int .i64 s, .int .i64 le, .int .i64 la, .int .i64 wi, .int .i64 ke, .int .i64 qu, .slice a n cap]] w fun e w' => e = .returned (.bool true) ∧ Below w.heap.size w w' := by
  have hmk := make_tiers n hsz
  have hlt : (n : Int) < (n : Int) + 1 := by omega
  have hts : TS ((w.alloc (.cells #[.int .i64 s, .int .i64 le, .int .i64 la, .int .i64 wi, .int .i64 ke, .int .i64 qu, .slice a n cap] 35)).alloc (.cells (newTiers n) 32)) a n F W K :=
    h.below (((Below.refl _ _).alloc (Nat.le_refl _) _).alloc (by simp) _)
  obtain ⟨w3, hcp, HR, hB3, HZ⟩ : ∃ w3, (Builtin.copy_ #[33, 33] 3 #[.slice (some ⟨w.heap.size + 1, 0, none⟩) (n + 1) (n + 1), .slice a n cap]).run Tryz.prog ((w.alloc (.cells #[.int .i64 s, .int .i64 le, .int .i64 la, .int .i64 wi, .int .i64 ke, .int .i64 qu, .slice a n cap] 35)).alloc (.cells (newTiers n) 32)) = .ok (.int .i64 n) w3 ∧
      Hid (w3.heap[w.heap.size + 1]? = some (.cells (row3 n F W K ++ (newTiers n).toList.drop (n * 3)).toArray 32 (0, 0))) ∧ Below (w.heap.size + 1) ((w.alloc (.cells #[.int .i64 s, .int .i64 le, .int .i64 la, .int .i64 wi, .int .i64 ke, .int .i64 qu, .slice a n cap] 35)).alloc (.cells (newTiers n) 32)) w3 ∧ w3.heap.size = w.heap.size + 2 := by
    generalize hW : (w.alloc (.cells #[.int .i64 s, .int .i64 le, .int .i64 la, .int .i64 wi, .int .i64 ke, .int .i64 qu, .slice a n cap] 35)) = X at hts
    have hWs : X.heap.size = w.heap.size + 1 := by rw [← hW]; simp
    have hg : (X.alloc (.cells (newTiers n) 32)).heap[w.heap.size + 1]? = some (.cells (newTiers n) 32 (0, 0)) := by rw [← hWs]; exact heap_alloc_last _ _
    have hr := run_copy_wide (P := Tryz.prog) (X.alloc (.cells (newTiers n) 32)) 33 33 3 32 3 (w.heap.size + 1) (n + 1) (n + 1) a n cap (newTiers n) 32 (row3 n F W K) Tryz.underlying33 (by kernel_rfl) hg
      (by rw [row3_length]; simp) hts.cells (by rw [row3_length, size_newTiers]; omega) (row3_one n F W K)
    have hm : Nat.min n (n + 1) = n := by simp
    rw [hm, row3_length] at hr
    refine ⟨_, hr, setRow_heap _ _ _ _ _ _ hg, below_setRow (Below.refl _ _) (Nat.le_refl _) _, ?_⟩
    simp [World.setRow, hWs]
  have HS : Hid (w3.heap.size = w.heap.size + 2) := HZ
  clear HZ
  have hx : ∀ j, j < 3 → ∃ v, w3.cell? ⟨w.heap.size + 1, n * 3 + j, none⟩ = some v := fun j hj => by
    rw [cell_of_block HR.out]
    exact ⟨_, Array.getElem?_eq_getElem (by simp [row3_length, size_newTiers]; omega)⟩
  obtain ⟨v0, x0⟩ := hx 0 (by omega)
  obtain ⟨v1, x1⟩ := hx 1 (by omega)
  obtain ⟨v2, x2⟩ := hx 2 (by omega)
  have x0 : w3.cell? ⟨w.heap.size + 1, n * 3, none⟩ = some v0 := x0
  clear hx
  have hfz : ∀ o, w3.frozen? ⟨w.heap.size + 1, o, none⟩ = false := fun o => unfrozen_of_block HR.out o
  obtain ⟨_, c0, c1, c2, c3, c4, c5, c6⟩ := ((CF.made w 35 (0, 0) s le la wi ke qu a n cap).below (((Below.refl (w.heap.size + 1) _).alloc (by simp) _)) (by omega)).below hB3 (by omega)
  have ht3 : TS w3 (some ⟨w.heap.size + 1, 0, none⟩) n F W K := TS.of_row HR.out
  have hw3 : w.heap.size + 1 < w3.heap.size := by have := HS.out; omega
  have hB03 : Below w.heap.size w w3 := (((Below.refl _ _).alloc (Nat.le_refl _) _).alloc (by simp) _).trans (hB3.mono (by omega))
  have hm : ∀ (C : Array Value) (t : TypeId), TS ((((w3.setCell ⟨w.heap.size + 1, n * 3, none⟩ (.int .i64 (-77))).setCell ⟨w.heap.size + 1, n * 3 + 1, none⟩ (.int .i64 0)).setCell ⟨w.heap.size + 1, n * 3 + 2, none⟩ (.int .i64 0)).alloc (.cells C t)) (some ⟨w.heap.size + 1, 0, none⟩) n F W K ∧
      ((((w3.setCell ⟨w.heap.size + 1, n * 3, none⟩ (.int .i64 (-77))).setCell ⟨w.heap.size + 1, n * 3 + 1, none⟩ (.int .i64 0)).setCell ⟨w.heap.size + 1, n * 3 + 2, none⟩ (.int .i64 0)).alloc (.cells C t)).cell? ⟨w.heap.size + 1, n * 3, none⟩ = some (.int .i64 (-77)) ∧
      Below (w.heap.size + 1) w3 ((((w3.setCell ⟨w.heap.size + 1, n * 3, none⟩ (.int .i64 (-77))).setCell ⟨w.heap.size + 1, n * 3 + 1, none⟩ (.int .i64 0)).setCell ⟨w.heap.size + 1, n * 3 + 2, none⟩ (.int .i64 0)).alloc (.cells C t)) ∧
      ((((w3.setCell ⟨w.heap.size + 1, n * 3, none⟩ (.int .i64 (-77))).setCell ⟨w.heap.size + 1, n * 3 + 1, none⟩ (.int .i64 0)).setCell ⟨w.heap.size + 1, n * 3 + 2, none⟩ (.int .i64 0)).alloc (.cells C t)).heap.size = w3.heap.size + 1 := by
    intro C t
    have hs : (((w3.setCell ⟨w.heap.size + 1, n * 3, none⟩ (.int .i64 (-77))).setCell ⟨w.heap.size + 1, n * 3 + 1, none⟩ (.int .i64 0)).setCell ⟨w.heap.size + 1, n * 3 + 2, none⟩ (.int .i64 0)).heap.size = w3.heap.size := by simp [World.setCell]
    have hB : Below (w.heap.size + 1) w3 (((w3.setCell ⟨w.heap.size + 1, n * 3, none⟩ (.int .i64 (-77))).setCell ⟨w.heap.size + 1, n * 3 + 1, none⟩ (.int .i64 0)).setCell ⟨w.heap.size + 1, n * 3 + 2, none⟩ (.int .i64 0)) :=
      (((Below.refl (w.heap.size + 1) w3).setCell (p := ⟨w.heap.size + 1, n * 3, none⟩) (Nat.le_refl (w.heap.size + 1)) (.int .i64 (-77))).setCell (p := ⟨w.heap.size + 1, n * 3 + 1, none⟩) (Nat.le_refl (w.heap.size + 1)) (.int .i64 0)).setCell (p := ⟨w.heap.size + 1, n * 3 + 2, none⟩) (Nat.le_refl (w.heap.size + 1)) (.int .i64 0)
    have hx : (((w3.setCell ⟨w.heap.size + 1, n * 3, none⟩ (.int .i64 (-77))).setCell ⟨w.heap.size + 1, n * 3 + 1, none⟩ (.int .i64 0)).setCell ⟨w.heap.size + 1, n * 3 + 2, none⟩ (.int .i64 0)).cell? ⟨w.heap.size + 1, n * 3, none⟩ = some (.int .i64 (-77)) := by
      rw [World.cell?_setCell_other _ _ _ _ (by simp), World.cell?_setCell_other _ _ _ _ (by simp)]
      exact World.cell?_setCell_same _ _ _ x0
    have ht := ((ht3.setCell (n * 3) (.int .i64 (-77)) (by omega)).setCell (n * 3 + 1) (.int .i64 0) (by omega)).setCell (n * 3 + 2) (.int .i64 0) (by omega)
    generalize (((w3.setCell ⟨w.heap.size + 1, n * 3, none⟩ (.int .i64 (-77))).setCell ⟨w.heap.size + 1, n * 3 + 1, none⟩ (.int .i64 0)).setCell ⟨w.heap.size + 1, n * 3 + 2, none⟩ (.int .i64 0)) = Y at hs hB hx ht ⊢
    have hA : Below Y.heap.size Y (Y.alloc (.cells C t)) := (Below.refl _ _).alloc (Nat.le_refl _) _
    exact ⟨ht.below hA, (hA.cell (p := ⟨w.heap.size + 1, n * 3, none⟩) (show w.heap.size + 1 < _ by rw [hs]; omega)).trans hx, hB.trans (hA.mono (by omega)), by simp [hs]⟩
  have HM := hm
  clear hm
  have HM : Hid (∀ (C : Array Value) (t : TypeId), _) := HM
  go_enter Tryz.func17, Tryz.ntmps17
  go_wp2_with fail
  refine (millRight_any s le la wi ke qu _ n (n + 1) F W K _ (HM.out _ _).1).mono ?_
  rintro e w5 ⟨rfl, hb⟩
  obtain ⟨ht4, hx4, hB4, hs4⟩ := HM.out (#[.int .i64 s, .int .i64 le, .int .i64 la, .int .i64 wi, .int .i64 ke, .int .i64 qu, .slice (some ⟨w.heap.size + 1, 0, none⟩) n (n + 1)]) 35
  have ht5 := ht4.below hb
  have hx5 := (hb.cell (p := ⟨w.heap.size + 1, n * 3, none⟩) (show w.heap.size + 1 < _ by rw [hs4]; omega)).trans hx4
  have hB5 : Below (w.heap.size + 1) w3 w5 := hB4.trans (hb.mono (by rw [hs4]; omega))
  have hb5 : Below w.heap.size w w5 := hB03.trans (hB5.mono (by omega))
  obtain ⟨_, c0, c1, c2, c3, c4, c5, c6⟩ := (show CF w3 w.heap.size s le la wi ke qu a n cap from ⟨by omega, c0, c1, c2, c3, c4, c5, c6⟩).below hB5 (by omega)
  have hw5 : w.heap.size < w5.heap.size := by have := hB5.size; omega
  have hta := h.below hb5
  have HX : Hid (codeOf (rightB s le la wi ke qu n F W K) = codeOf (rightB s le la wi ke qu n F W K)) := rfl
  clear ht4 hx4 hB4 hs4 hb HM hcp hmk x0 x1 x2 hfz ht3 hB03 hts HR HS hB3 hw3
  go_wp2_with fail
  go_loopw [7, 8] (fun x y wr => ∃ (k : Nat), k ≤ n ∧ x = .bool true ∧ y = .int .i64 k ∧ Below w5.heap.size w5 wr) (fun _ y _ => n - (intOf y).toNat)
  case atStart => exact ⟨0, Nat.zero_le _, rfl, rfl, Below.refl _ _⟩
  case round =>
    obtain ⟨k, hk, rfl, rfl, hb⟩ := hrel
    obtain ⟨_, c0, c1, c2, c3, c4, c5, c6⟩ := (show CF w5 w.heap.size s le la wi ke qu a n cap from ⟨hw5, c0, c1, c2, c3, c4, c5, c6⟩).below hb hw5
    have hwr : w.heap.size < wr.heap.size := Nat.lt_of_lt_of_le hw5 hb.size
    by_cases hkl : k < n
    · have ht6 := ht5.below hb
      have ha6 := hta.below hb
      obtain ⟨b0, off0, e0, hz0, hc0⟩ := ht6 (by omega)
      cases e0
      obtain ⟨b, off, rfl, hbz, hc⟩ := ha6 (by omega)
      obtain ⟨g1, g2, g3⟩ := hc0 k hkl
      simp only [Nat.zero_add] at g1 g2 g3
      obtain ⟨h1, h2, h3⟩ := hc k hkl
      have hkn : (k : Int) < n := by omega
      have hkn1 : (k : Int) < (n : Int) + 1 := by omega
      clear hc hc0
      have hne : Nonempty (Later wr.heap.size wr) := Later.some _ _
      have hlc := fun (u : Later wr.heap.size wr) b o h => u.cell b o h
      go_wp2_with fail
      refine wp_region_later wr.heap.size (by kernel_rfl) (by kernel_rfl) ?_
      repeat (go_big_quiet_step (fail))
      refine wpQuiet_nil ?_
      rintro ⟨w1, hb1⟩
      clear hlc hne
      dsimp only
      go_wp2_with fail
      go_roundw
      case rel => exact ⟨k + 1, by omega, rfl, by go_num, hb.trans (hb1.mono hb.size)⟩
      case measure => simp [intOf]; omega
    · have ha6 := hta.below hb
      have hbw : Below w.heap.size w wr := hb5.trans (hb.mono (by omega))
      go_wp2_with (first
        | (go_at_call 13; refine (refRight_any s le la wi ke qu _ n cap F W K _ ha6).mono ?_; rintro e w7 ⟨rfl, hb7⟩)
        | (go_at_call 24; refine (num_any _ _).mono ?_; rintro e w8 ⟨rfl, rfl⟩))
      go_ret
      exact ⟨rfl, hbw.trans (hb7.mono (by omega))⟩

end Go.Proofs.YtgadceofpbfleaaGreat
