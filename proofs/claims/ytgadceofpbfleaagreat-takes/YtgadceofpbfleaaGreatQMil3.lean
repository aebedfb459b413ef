import Derived.Test.YtgadceofpbfleaaGreatQMil0
import Derived.Test.YtgadceofpbfleaaGreatQSet5

/- Walks: Ingest of the program. -/
namespace Go.Proofs.YtgadceofpbfleaaGreat
open Go.RowKit Go.Maps Go.Shelf
set_option linter.unusedVariables false

def pingest (c : Cf) (now : Int) (L : LV) (ser tm val : Int) : LV × Int :=
  if serB ser = false then (L, 2) else if tm < 0 ∨ now < tm then (L, 5) else if tm < now - c.la then (L, 3)
  else if c.qu < usedL L + (1 + 2 * missL c L ⟨ser, tm, val⟩ c.n) then (L, 4) else (addL c L ⟨ser, tm, val⟩, 0)

set_option maxRecDepth 8000 in
set_option maxHeartbeats 4000000 in
theorem pingest_any {w : World} {x : Nat} {c : Cf} {tv : Value} {ep now : Int} {s lb gb : Nat} {L : LV} (h : MillAt w x c tv ep now s lb gb L) (hc : c.ok) (hnow : 0 ≤ now ∧ now ≤ 100000) (hu : 0 ≤ usedL L ∧ usedL L ≤ 1000000000000) (hst : stOk L) (hroom : L.length ≤ 1000000) (hsm : ∀ p ∈ L, p.2.cl.small) (ser tm val : Int) (hval : -2147483648 ≤ val ∧ val ≤ 2147483647) :
    Calls Tryz.prog 51 #[.pointer (some ⟨x, 0, none⟩), .int .i64 ser, .int .i64 tm, .int .i32 val] w fun e w' => e = .returned (.int .i64 (pingest c now L ser tm val).2) ∧ MillAt w' x c tv ep now s lb gb (pingest c now L ser tm val).1 ∧ Kept (fun k => k = lb) w w' := by
  obtain ⟨a, cap, rfl⟩ := row_slice h.set.trow
  obtain ⟨c0, c1, c2, c3, c4, c5, c6, c7, c8, c9⟩ := h.cells
  have hxl := h.lt
  have HS := fun W => hide (isSeries_any ser W)
  have H := hide h
  obtain ⟨hn1, hn2⟩ := hnow
  obtain ⟨hl1, hl2⟩ := hc.la
  obtain ⟨hq1, hq2⟩ := hc.qu
  have hn4 := hc.n4
  have HST := hide hst
  have HSM := hide hsm
  clear h c7 hst hsm
  by_cases p1 : serB ser = false
  · rw [show pingest c now L ser tm val = (L, 2) from by simp [pingest, p1]]
    rw [p1] at HS
    go_enter Tryz.func51, Tryz.ntmps51
    go_wp2_with (go_at_call 62; refine (unhide (HS _)).mono ?_; rintro e w2 ⟨rfl, hw2⟩; rw [hw2]; clear hw2)
    go_ret
    exact ⟨rfl, unhide H, Kept.refl _ _⟩
  have p1' : serB ser = true := by simpa using p1
  rw [p1'] at HS
  by_cases p2 : tm < 0
  · rw [show pingest c now L ser tm val = (L, 5) from by simp [pingest, p1, p2]]
    go_enter Tryz.func51, Tryz.ntmps51
    go_wp2_with (go_at_call 62; refine (unhide (HS _)).mono ?_; rintro e w2 ⟨rfl, hw2⟩; rw [hw2]; clear hw2)
    go_ret
    exact ⟨rfl, unhide H, Kept.refl _ _⟩
  have p2' : decide (tm < 0) = false := by simpa using p2
  by_cases p3 : now < tm
  · rw [show pingest c now L ser tm val = (L, 5) from by simp [pingest, p1, p3]]
    go_enter Tryz.func51, Tryz.ntmps51
    go_wp2_with (go_at_call 62; refine (unhide (HS _)).mono ?_; rintro e w2 ⟨rfl, hw2⟩; rw [hw2]; clear hw2)
    go_ret
    exact ⟨rfl, unhide H, Kept.refl _ _⟩
  have p3' : decide (now < tm) = false := by simpa using p3
  have hne : Nonempty (Later w.heap.size w) := Later.some _ _
  have hlc := fun (u : Later w.heap.size w) b o h => u.cell b o h
  have HG := fun (u : Later w.heap.size w) => hide (llag_any c a cap u.1)
  by_cases p4 : tm < now - c.la
  · rw [show pingest c now L ser tm val = (L, 3) from by simp [pingest, p1, p2, p3, p4]]
    go_enter Tryz.func51, Tryz.ntmps51
    go_wp2_with (go_at_call 62; refine (unhide (HS _)).mono ?_; rintro e w2 ⟨rfl, hw2⟩; rw [hw2]; clear hw2)
    refine wp_region_later w.heap.size (by kernel_rfl) (by kernel_rfl) ?_
    repeat (go_big_quiet_step (first
      | (go_at_call 86; exact Calls.later (Nat.le_refl _) (unhide (HG _)))))
    refine wpQuiet_nil ?_
    rintro ⟨w1, hb1⟩
    dsimp only
    clear hlc hne
    go_wp2_with fail
    go_ret
    exact ⟨rfl, (unhide H).later hb1, Kept.of_below hb1⟩
  have p4' : decide (tm < now - c.la) = false := by simpa using p4
  have hser : 0 ≤ ser ∧ ser < 4 := by simpa [serB] using p1'
  have hmb := missL_bounds c L ⟨ser, tm, val⟩ c.n
  obtain ⟨M, hM⟩ : ∃ M, missL c L ⟨ser, tm, val⟩ c.n = M := ⟨_, rfl⟩
  obtain ⟨U, hU⟩ : ∃ U, usedL L = U := ⟨_, rfl⟩
  have HPG : Hid (pingest c now L ser tm val = if c.qu < U + (1 + 2 * M) then (L, 4) else (addL c L ⟨ser, tm, val⟩, 0)) := by
    show _ = _
    unfold pingest
    rw [if_neg p1, if_neg (by omega), if_neg p4, hM, hU]
  have HAD := fun (W : World) (hb : Below w.heap.size w W) => hide (padd_any ((unhide H).later hb).set hc ser tm val hser ⟨by omega, by omega⟩ hval (unhide HST) hroom (unhide HSM))
  rw [hM] at hmb
  rw [hU] at hu
  obtain ⟨hm1, hm2⟩ := hmb
  obtain ⟨hu1, hu2⟩ := hu
  have p5' : ∀ (b : Bool), decide (c.qu < U + (1 + 2 * M)) = b → Calls Tryz.prog 51 #[.pointer (some ⟨x, 0, none⟩), .int .i64 ser, .int .i64 tm, .int .i32 val] w fun e w' => e = .returned (.int .i64 (if b then 4 else 0)) ∧ MillAt w' x c (.slice a c.n cap) ep now s lb gb (if b then L else addL c L ⟨ser, tm, val⟩) ∧ Kept (fun k => k = lb) w w' := by
    intro b p5
    go_enter Tryz.func51, Tryz.ntmps51
    go_wp2_with (go_at_call 62; refine (unhide (HS _)).mono ?_; rintro e w2 ⟨rfl, hw2⟩; rw [hw2]; clear hw2)
    refine wp_region_later w.heap.size (by kernel_rfl) (by kernel_rfl) ?_
    repeat (go_big_quiet_step (first
      | (go_at_call 86; exact Calls.later (Nat.le_refl _) (unhide (HG _)))))
    refine wpQuiet_nil ?_
    rintro ⟨w1, hb1⟩
    dsimp only
    have H1 := hide ((unhide H).later hb1)
    obtain ⟨d0, d1, d2, d3, d4, d5, d6, -, d8, d9⟩ := (unhide H1).cells
    have hxl1 := (unhide H1).lt
    have hne1 : Nonempty (Later w1.heap.size w1) := Later.some _ _
    have HB1 := hide hb1
    have HUS := fun (u : Later w1.heap.size w1) => hide (pused_any ((unhide H1).later u.2).set (by rw [hU]; unfold i64B; omega))
    have HCO := fun (u : Later w1.heap.size w1) => hide (pcost_any ((unhide H1).later u.2).set hc ser tm val hser ⟨by omega, by omega⟩ (unhide HST))
    have HQU := fun (u : Later w1.heap.size w1) => hide (lquota_any c a cap u.1)
    rw [hU] at HUS
    rw [hM] at HCO
    clear hlc hne c0 c1 c2 c3 c4 c5 c6 c8 c9 HG hb1 p4' p4 p3' p2'
    have hlc := fun (u : Later w1.heap.size w1) b o h => u.cell b o h
    go_wp2_with fail
    refine wp_region_later w1.heap.size (by kernel_rfl) (by kernel_rfl) ?_
    repeat (go_big_quiet_step (first
      | (go_at_call 46; exact Calls.later (Nat.le_refl _) (unhide (HUS _)))
      | (go_at_call 87; exact Calls.later (Nat.le_refl _) (unhide (HCO _)))
      | (go_at_call 48; exact Calls.later (Nat.le_refl _) (unhide (HQU _)))))
    refine wpQuiet_nil ?_
    rintro ⟨w3, hb3⟩
    dsimp only
    have hb03 := (unhide HB1).trans (hb3.mono (unhide HB1).size)
    have HA3 := HAD w3 hb03
    have e9 := (hb3.cell (p := ⟨x, 9, none⟩) hxl1).trans d9
    have HB3 := hide hb03
    clear hlc hne1 HUS HCO HQU hb3 hb03 HAD d0 d1 d2 d3 d4 d5 d6 d8 d9
    cases b with
    | true =>
      go_wp2_with fail
      go_ret
      exact ⟨rfl, (unhide H).later (unhide HB3), Kept.of_below (unhide HB3)⟩
    | false =>
      go_wp2_with fail
      refine (unhide HA3).mono ?_
      rintro e w4 ⟨rfl, hs4, hk4⟩
      have HS4 := hide hs4
      have HK4 := hide hk4
      clear hs4 hk4
      go_wp2_with fail
      go_ret
      refine ⟨rfl, ⟨?_, unhide HS4⟩, (Kept.of_below (f := fun k => k = lb) (unhide HB3)).trans (unhide HK4) (fun _ _ h => h)⟩
      refine (unhide HK4).heap (((unhide H).later (unhide HB3)).head) (fun e => ?_)
      obtain ⟨es, cl, hb, _⟩ := (unhide H).set.live
      have hh := (unhide H).head
      rw [e, hb] at hh; cases hh
  by_cases p5 : c.qu < U + (1 + 2 * M)
  · have := p5' true (by simpa using p5)
    rw [unhide HPG, if_pos p5]
    exact this
  · have := p5' false (by simpa using p5)
    rw [unhide HPG, if_neg p5]
    exact this
end Go.Proofs.YtgadceofpbfleaaGreat
