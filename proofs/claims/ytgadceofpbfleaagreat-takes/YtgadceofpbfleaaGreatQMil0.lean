import Derived.Test.YtgadceofpbfleaaGreatQFst2

/- The program's mill in memory; walks: isSeries, tight, closed, Tick. -/
namespace Go.Proofs.YtgadceofpbfleaaGreat
open Go.RowKit Go.Maps Go.Shelf
set_option linter.unusedVariables false

/-- the program's mill at block x. -/
structure MillAt (w : World) (x : Nat) (c : Cf) (tv : Value) (ep now : Int) (s lb gb : Nat) (L : LV) : Prop where
  head : w.heap[x]? = some (.cells #[.int .i64 c.s, .int .i64 c.le, .int .i64 c.la, .int .i64 c.wi, .int .i64 c.ke, .int .i64 c.qu, tv, .int .i64 ep, .int .i64 now, .pointer (some ⟨s, 0, none⟩)] 108 (0, 0))
  set : SetAt w s c tv lb gb L
def mfoot (x s : Nat) (tv : Value) (lb gb : Nat) (k : Nat) : Prop := k = x ∨ sfoot s tv lb gb k

section
variable {w : World} {x : Nat} {c : Cf} {tv : Value} {ep now : Int} {s lb gb : Nat} {L : LV}
theorem MillAt.lt (h : MillAt w x c tv ep now s lb gb L) : x < w.heap.size := lt_of_heap h.head
theorem MillAt.kept {f : Nat → Prop} {w' : World} (h : MillAt w x c tv ep now s lb gb L) (hk : Kept f w w') (hn : ∀ k, mfoot x s tv lb gb k → ¬ f k) : MillAt w' x c tv ep now s lb gb L := ⟨hk.heap h.head (hn x (.inl rfl)), h.set.kept hk (fun k hh => hn k (.inr hh))⟩
theorem MillAt.later {w' : World} (h : MillAt w x c tv ep now s lb gb L) (hb : Below w.heap.size w w') : MillAt w' x c tv ep now s lb gb L := h.kept (f := fun _ => False) (Kept.of_below hb) (fun _ _ hh => hh)
theorem MillAt.cells (h : MillAt w x c tv ep now s lb gb L) : w.cell? ⟨x, 0, none⟩ = some (.int .i64 c.s) ∧ w.cell? ⟨x, 1, none⟩ = some (.int .i64 c.le) ∧ w.cell? ⟨x, 2, none⟩ = some (.int .i64 c.la) ∧ w.cell? ⟨x, 3, none⟩ = some (.int .i64 c.wi) ∧ w.cell? ⟨x, 4, none⟩ = some (.int .i64 c.ke) ∧ w.cell? ⟨x, 5, none⟩ = some (.int .i64 c.qu) ∧ w.cell? ⟨x, 6, none⟩ = some tv ∧ w.cell? ⟨x, 7, none⟩ = some (.int .i64 ep) ∧ w.cell? ⟨x, 8, none⟩ = some (.int .i64 now) ∧ w.cell? ⟨x, 9, none⟩ = some (.pointer (some ⟨s, 0, none⟩)) := by
  refine ⟨?_, ?_, ?_, ?_, ?_, ?_, ?_, ?_, ?_, ?_⟩ <;> rw [rcell h.head] <;> rfl
theorem MillAt.setNow (h : MillAt w x c tv ep now s lb gb L) (n : Int) : MillAt (w.setCell ⟨x, 8, none⟩ (.int .i64 n)) x c tv ep n s lb gb L := by
  have hk : Kept (fun k => k = x) w (w.setCell ⟨x, 8, none⟩ (.int .i64 n)) := kept_set (Kept.refl _ _) rfl
  refine ⟨rset (i := 8) h.head (.int .i64 n), h.set.kept hk (fun k hh e => ?_)⟩
  subst e
  have hx := h.head
  rcases hh with rfl | hh | rfl | rfl
  · rw [h.set.head] at hx; cases hx
  · obtain ⟨cur, hc⟩ := owns_type h.set.trow hh
    rw [hc] at hx; cases hx
  · obtain ⟨es, cl, hb, _⟩ := h.set.live
    rw [hb] at hx; cases hx
  · rw [h.set.gone] at hx; cases hx
end

def serB (n : Int) : Bool := decide (0 ≤ n) && decide (n < 4)
set_option maxHeartbeats 1000000 in
theorem isSeries_any (n : Int) (w : World) : Calls Tryz.prog 62 #[.int .i64 n] w fun e w' => e = .returned (.bool (serB n)) ∧ w' = w := by
  by_cases h : 0 ≤ n
  · by_cases h2 : n < 4
    · rw [show serB n = true from by simp [serB, h, h2]]
      go_enter Tryz.func62, Tryz.ntmps62
      go_wp2_with fail
      go_ret
      exact ⟨rfl, rfl⟩
    · rw [show serB n = false from by simp [serB, h, h2]]
      have h3 : decide (n < 4) = false := by simpa using h2
      go_enter Tryz.func62, Tryz.ntmps62
      go_wp2_with fail
      go_ret
      exact ⟨rfl, rfl⟩
  · rw [show serB n = false from by simp [serB, h]]
    have h3 : decide (0 ≤ n) = false := by simpa using h
    go_enter Tryz.func62, Tryz.ntmps62
    go_wp2_with fail
    go_ret
    exact ⟨rfl, rfl⟩

def tightN (u q : Int) : Int := if 3 * q < 4 * u then 1 else 0
set_option maxHeartbeats 1000000 in
theorem ptight_any (u q : Int) (hu : 0 ≤ u ∧ u ≤ 1000000000000) (hq : 0 ≤ q ∧ q ≤ 1000) (w : World) : Calls Tryz.prog 47 #[.int .i64 u, .int .i64 q] w fun e w' => e = .returned (.int .i64 (tightN u q)) ∧ w' = w := by
  obtain ⟨hu1, hu2⟩ := hu
  obtain ⟨hq1, hq2⟩ := hq
  by_cases h : 3 * q < 4 * u
  · rw [show tightN u q = 1 from by simp [tightN, h]]
    go_enter Tryz.func47, Tryz.ntmps47
    go_wp2_with fail
    go_ret
    exact ⟨rfl, rfl⟩
  · rw [show tightN u q = 0 from by simp [tightN, h]]
    have h3 : decide (3 * q < 4 * u) = false := by simpa using h
    go_enter Tryz.func47, Tryz.ntmps47
    go_wp2_with fail
    go_ret
    exact ⟨rfl, rfl⟩

set_option maxHeartbeats 4000000 in
theorem pclosed_any {w : World} {x : Nat} {c : Cf} {tv : Value} {ep now : Int} {s lb gb : Nat} {L : LV} (h : MillAt w x c tv ep now s lb gb L) (hc : c.ok) (hnow : 0 ≤ now ∧ now ≤ 100000) (t win : Int) (ht1 : -1 ≤ t) (ht2 : t < c.n) (hwn : 0 ≤ win ∧ win ≤ 100000) :
    Calls Tryz.prog 63 #[.pointer (some ⟨x, 0, none⟩), .int .i64 t, .int .i64 win] w fun e w' => e = .returned (.bool (decide ((win + 1) * c.width t ≤ now - c.la))) ∧ Below w.heap.size w w' := by
  obtain ⟨a, cap, rfl⟩ := row_slice h.set.trow
  obtain ⟨c0, c1, c2, c3, c4, c5, c6, c7, c8, c9⟩ := h.cells
  have hxl := h.lt
  obtain ⟨hn1, hn2⟩ := hnow
  obtain ⟨hl1, hl2⟩ := hc.la
  have hts := TS.of_owns h.set.trow
  have hne : Nonempty (Later w.heap.size w) := Later.some _ _
  have hlc := fun (u : Later w.heap.size w) b o h => u.cell b o h
  have HE := fun (u : Later w.heap.size w) => hide (lend_any c hc a cap t win ht1 ht2 hwn u.1 (hts.below u.2))
  have HG := fun (u : Later w.heap.size w) => hide (llag_any c a cap u.1)
  generalize (win + 1) * c.width t = E at *
  clear h hts c7
  go_enter Tryz.func63, Tryz.ntmps63
  go_wp2_with fail
  refine wp_region_later w.heap.size (by kernel_rfl) (by kernel_rfl) ?_
  repeat (go_big_quiet_step (first
    | (go_at_call 96; exact Calls.later (Nat.le_refl _) (unhide (HE _)))
    | (go_at_call 86; exact Calls.later (Nat.le_refl _) (unhide (HG _)))))
  refine wpQuiet_nil ?_
  rintro ⟨w1, hb1⟩
  dsimp only
  clear hlc hne
  go_wp2_with fail
  go_ret
  exact ⟨rfl, hb1⟩

def ptick (now n : Int) : Int × Int := if n < 1 ∨ 1000 < n ∨ 100000 < now + n then (now, 5) else (now + n, 0)
set_option maxHeartbeats 4000000 in
theorem ptick_any {w : World} {x : Nat} {c : Cf} {tv : Value} {ep now : Int} {s lb gb : Nat} {L : LV} (h : MillAt w x c tv ep now s lb gb L) (hnow : 0 ≤ now ∧ now ≤ 100000) (n : Int) :
    Calls Tryz.prog 52 #[.pointer (some ⟨x, 0, none⟩), .int .i64 n] w fun e w' => e = .returned (.int .i64 (ptick now n).2) ∧ MillAt w' x c tv ep (ptick now n).1 s lb gb L ∧ Kept (fun k => k = x) w w' := by
  obtain ⟨-, -, -, -, -, -, -, -, c8, -⟩ := h.cells
  have hxl := h.lt
  obtain ⟨hn1, hn2⟩ := hnow
  have hfr : ∀ j, w.frozen? ⟨x, j, none⟩ = false := fun j => rfree h.head j
  have H := hide h
  clear h
  by_cases h1 : n < 1
  · rw [show ptick now n = (now, 5) from by simp [ptick, h1]]
    go_enter Tryz.func52, Tryz.ntmps52
    go_wp2_with fail
    go_ret
    exact ⟨rfl, unhide H, Kept.refl _ _⟩
  have h1' : decide (n < 1) = false := by simpa using h1
  by_cases h2 : 1000 < n
  · rw [show ptick now n = (now, 5) from by simp [ptick, h2]]
    go_enter Tryz.func52, Tryz.ntmps52
    go_wp2_with fail
    go_ret
    exact ⟨rfl, unhide H, Kept.refl _ _⟩
  have h2' : decide (1000 < n) = false := by simpa using h2
  by_cases h3 : 100000 < now + n
  · rw [show ptick now n = (now, 5) from by simp [ptick, h3]]
    go_enter Tryz.func52, Tryz.ntmps52
    go_wp2_with fail
    go_ret
    exact ⟨rfl, unhide H, Kept.refl _ _⟩
  have h3' : decide (100000 < now + n) = false := by simpa using h3
  rw [show ptick now n = (now + n, 0) from by unfold ptick; rw [if_neg (by omega)]]
  go_enter Tryz.func52, Tryz.ntmps52
  go_wp2_with fail
  go_ret
  exact ⟨rfl, (unhide H).setNow _, kept_set (Kept.refl _ _) rfl⟩
end Go.Proofs.YtgadceofpbfleaaGreat

/- Walks: Query (written by wip/mkquery.py). -/
namespace Go.Proofs.YtgadceofpbfleaaGreat
open Go.RowKit Go.Maps Go.Shelf
set_option linter.unusedVariables false

def pquery (c : Cf) (now : Int) (L : LV) (t ser win : Int) : Cl × Int :=
  if inB t (-1) ((c.n : Int) - 1) = false ∨ serB ser = false ∨ win < 0 ∨ 100000 < win then (noCl, 2)
  else if now - c.la < (win + 1) * c.width t then (noCl, 9)
  else queryL L ⟨t, ser, win⟩

set_option maxRecDepth 8000 in
set_option maxHeartbeats 8000000 in
theorem pquery_any {w : World} {x : Nat} {c : Cf} {tv : Value} {ep now : Int} {s lb gb : Nat} {L : LV} (h : MillAt w x c tv ep now s lb gb L) (hc : c.ok) (hnow : 0 ≤ now ∧ now ≤ 100000) (t ser win : Int) (hst : ¬ (stL L ⟨t, ser, win⟩).st = 4) :
    Calls Tryz.prog 34 #[.pointer (some ⟨x, 0, none⟩), .int .i64 t, .int .i64 ser, .int .i64 win] w fun e w' => e = .returned (.tuple #[.agg #[.int .i64 (pquery c now L t ser win).1.cnt, .int .i64 (pquery c now L t ser win).1.sum, .int .i32 (pquery c now L t ser win).1.mn, .int .i32 (pquery c now L t ser win).1.mx], .int .i64 (pquery c now L t ser win).2]) ∧ Below w.heap.size w w' := by
  obtain ⟨a, cap, rfl⟩ := row_slice h.set.trow
  obtain ⟨c0, c1, c2, c3, c4, c5, c6, c7, c8, c9⟩ := h.cells
  have hxl := h.lt
  have hb0 : Below w.heap.size w (w.alloc (.cells #[.int .i64 0, .int .i64 0, .int .i32 0, .int .i32 0] 91)) := (Below.refl _ _).alloc (Nat.le_refl _) _
  have HB0 := hide hb0
  have HL0 := hide (rlast w (.cells #[.int .i64 0, .int .i64 0, .int .i32 0, .int .i32 0] 91))
  have hq0 : w.heap.size < (w.alloc (.cells #[.int .i64 0, .int .i64 0, .int .i32 0, .int .i32 0] 91)).heap.size := by rw [rsize]; omega
  have hxz : x < (w.alloc (.cells #[.int .i64 0, .int .i64 0, .int .i32 0, .int .i32 0] 91)).heap.size := by rw [rsize]; omega
  have HH := hide (lhas_any c hc a cap t (w.alloc (.cells #[.int .i64 0, .int .i64 0, .int .i32 0, .int .i32 0] 91)))
  have HS := fun W => hide (isSeries_any ser W)
  have H0 := hide (h.later hb0)
  have c9 := (hb0.cell (p := ⟨x, 9, none⟩) hxl).trans c9
  clear hb0 h c7 c8
  by_cases p1 : inB t (-1) ((c.n : Int) - 1) = false
  · rw [show pquery c now L t ser win = (noCl, 2) from by simp [pquery, p1]]
    rw [p1] at HH
    go_enter Tryz.func34, Tryz.ntmps34
    go_wp2_with (first | (go_at_call 61; refine (unhide HH).mono ?_; rintro e w1 ⟨rfl, hb1⟩; have m8 := (hb1.cell (p := ⟨x, 9, none⟩) hxz).trans c9; have y0 : w1.cell? ⟨w.heap.size, 0, none⟩ = some (.int .i64 0) := (by rw [rcell ((hb1.block w.heap.size hq0).trans (unhide HL0))]; rfl); have y1 : w1.cell? ⟨w.heap.size, 1, none⟩ = some (.int .i64 0) := (by rw [rcell ((hb1.block w.heap.size hq0).trans (unhide HL0))]; rfl); have y2 : w1.cell? ⟨w.heap.size, 2, none⟩ = some (.int .i32 0) := (by rw [rcell ((hb1.block w.heap.size hq0).trans (unhide HL0))]; rfl); have y3 : w1.cell? ⟨w.heap.size, 3, none⟩ = some (.int .i32 0) := (by rw [rcell ((hb1.block w.heap.size hq0).trans (unhide HL0))]; rfl); have yf := fun j => rfree ((hb1.block w.heap.size hq0).trans (unhide HL0)) j; have HB1 := hide hb1))
    have e2 := ((unhide HB1).block w.heap.size hq0).trans (unhide HL0)
    have hf := set4c e2 (.int .i64 0) (.int .i64 0) (.int .i32 0) (.int .i32 0)
    refine bodyPost_ret (v := .tuple #[.agg #[.int .i64 0, .int .i64 0, .int .i32 0, .int .i32 0], .int .i64 2]) (results_row_tmp Tryz.results34 _ _ w.heap.size _ _ _ _ _ rfl rfl hf Tryz.underlying91 rfl (by kernel_rfl)) rfl ?_
    exact ⟨rfl, (unhide HB0).trans (((unhide HB1).mono (unhide HB0).size).trans (below4 (Nat.le_refl _) _ _ _ _))⟩
  have p1' : inB t (-1) ((c.n : Int) - 1) = true := by simpa using p1
  rw [p1'] at HH
  by_cases p2 : serB ser = false
  · rw [show pquery c now L t ser win = (noCl, 2) from by simp [pquery, p2]]
    rw [p2] at HS
    go_enter Tryz.func34, Tryz.ntmps34
    go_wp2_with (first | (go_at_call 61; refine (unhide HH).mono ?_; rintro e w1 ⟨rfl, hb1⟩; have m8 := (hb1.cell (p := ⟨x, 9, none⟩) hxz).trans c9; have y0 : w1.cell? ⟨w.heap.size, 0, none⟩ = some (.int .i64 0) := (by rw [rcell ((hb1.block w.heap.size hq0).trans (unhide HL0))]; rfl); have y1 : w1.cell? ⟨w.heap.size, 1, none⟩ = some (.int .i64 0) := (by rw [rcell ((hb1.block w.heap.size hq0).trans (unhide HL0))]; rfl); have y2 : w1.cell? ⟨w.heap.size, 2, none⟩ = some (.int .i32 0) := (by rw [rcell ((hb1.block w.heap.size hq0).trans (unhide HL0))]; rfl); have y3 : w1.cell? ⟨w.heap.size, 3, none⟩ = some (.int .i32 0) := (by rw [rcell ((hb1.block w.heap.size hq0).trans (unhide HL0))]; rfl); have yf := fun j => rfree ((hb1.block w.heap.size hq0).trans (unhide HL0)) j; have HB1 := hide hb1) | (go_at_call 62; refine (unhide (HS _)).mono ?_; rintro e w2 ⟨rfl, rfl⟩))
    have e2 := ((unhide HB1).block w.heap.size hq0).trans (unhide HL0)
    have hf := set4c e2 (.int .i64 0) (.int .i64 0) (.int .i32 0) (.int .i32 0)
    refine bodyPost_ret (v := .tuple #[.agg #[.int .i64 0, .int .i64 0, .int .i32 0, .int .i32 0], .int .i64 2]) (results_row_tmp Tryz.results34 _ _ w.heap.size _ _ _ _ _ rfl rfl hf Tryz.underlying91 rfl (by kernel_rfl)) rfl ?_
    exact ⟨rfl, (unhide HB0).trans (((unhide HB1).mono (unhide HB0).size).trans (below4 (Nat.le_refl _) _ _ _ _))⟩
  have p2' : serB ser = true := by simpa using p2
  rw [p2'] at HS
  by_cases p3 : win < 0
  · rw [show pquery c now L t ser win = (noCl, 2) from by simp [pquery, p3]]
    go_enter Tryz.func34, Tryz.ntmps34
    go_wp2_with (first | (go_at_call 61; refine (unhide HH).mono ?_; rintro e w1 ⟨rfl, hb1⟩; have m8 := (hb1.cell (p := ⟨x, 9, none⟩) hxz).trans c9; have y0 : w1.cell? ⟨w.heap.size, 0, none⟩ = some (.int .i64 0) := (by rw [rcell ((hb1.block w.heap.size hq0).trans (unhide HL0))]; rfl); have y1 : w1.cell? ⟨w.heap.size, 1, none⟩ = some (.int .i64 0) := (by rw [rcell ((hb1.block w.heap.size hq0).trans (unhide HL0))]; rfl); have y2 : w1.cell? ⟨w.heap.size, 2, none⟩ = some (.int .i32 0) := (by rw [rcell ((hb1.block w.heap.size hq0).trans (unhide HL0))]; rfl); have y3 : w1.cell? ⟨w.heap.size, 3, none⟩ = some (.int .i32 0) := (by rw [rcell ((hb1.block w.heap.size hq0).trans (unhide HL0))]; rfl); have yf := fun j => rfree ((hb1.block w.heap.size hq0).trans (unhide HL0)) j; have HB1 := hide hb1) | (go_at_call 62; refine (unhide (HS _)).mono ?_; rintro e w2 ⟨rfl, rfl⟩))
    have e2 := ((unhide HB1).block w.heap.size hq0).trans (unhide HL0)
    have hf := set4c e2 (.int .i64 0) (.int .i64 0) (.int .i32 0) (.int .i32 0)
    refine bodyPost_ret (v := .tuple #[.agg #[.int .i64 0, .int .i64 0, .int .i32 0, .int .i32 0], .int .i64 2]) (results_row_tmp Tryz.results34 _ _ w.heap.size _ _ _ _ _ rfl rfl hf Tryz.underlying91 rfl (by kernel_rfl)) rfl ?_
    exact ⟨rfl, (unhide HB0).trans (((unhide HB1).mono (unhide HB0).size).trans (below4 (Nat.le_refl _) _ _ _ _))⟩
  have p3' : decide (win < 0) = false := by simpa using p3
  by_cases p4 : 100000 < win
  · rw [show pquery c now L t ser win = (noCl, 2) from by simp [pquery, p4]]
    go_enter Tryz.func34, Tryz.ntmps34
    go_wp2_with (first | (go_at_call 61; refine (unhide HH).mono ?_; rintro e w1 ⟨rfl, hb1⟩; have m8 := (hb1.cell (p := ⟨x, 9, none⟩) hxz).trans c9; have y0 : w1.cell? ⟨w.heap.size, 0, none⟩ = some (.int .i64 0) := (by rw [rcell ((hb1.block w.heap.size hq0).trans (unhide HL0))]; rfl); have y1 : w1.cell? ⟨w.heap.size, 1, none⟩ = some (.int .i64 0) := (by rw [rcell ((hb1.block w.heap.size hq0).trans (unhide HL0))]; rfl); have y2 : w1.cell? ⟨w.heap.size, 2, none⟩ = some (.int .i32 0) := (by rw [rcell ((hb1.block w.heap.size hq0).trans (unhide HL0))]; rfl); have y3 : w1.cell? ⟨w.heap.size, 3, none⟩ = some (.int .i32 0) := (by rw [rcell ((hb1.block w.heap.size hq0).trans (unhide HL0))]; rfl); have yf := fun j => rfree ((hb1.block w.heap.size hq0).trans (unhide HL0)) j; have HB1 := hide hb1) | (go_at_call 62; refine (unhide (HS _)).mono ?_; rintro e w2 ⟨rfl, rfl⟩))
    have e2 := ((unhide HB1).block w.heap.size hq0).trans (unhide HL0)
    have hf := set4c e2 (.int .i64 0) (.int .i64 0) (.int .i32 0) (.int .i32 0)
    refine bodyPost_ret (v := .tuple #[.agg #[.int .i64 0, .int .i64 0, .int .i32 0, .int .i32 0], .int .i64 2]) (results_row_tmp Tryz.results34 _ _ w.heap.size _ _ _ _ _ rfl rfl hf Tryz.underlying91 rfl (by kernel_rfl)) rfl ?_
    exact ⟨rfl, (unhide HB0).trans (((unhide HB1).mono (unhide HB0).size).trans (below4 (Nat.le_refl _) _ _ _ _))⟩
  have p4' : decide (100000 < win) = false := by simpa using p4
  have ht := (inB_iff _ _ _).1 p1'
  obtain ⟨ht1, ht2⟩ := ht
  have hser : 0 ≤ ser ∧ ser < 4 := by simpa [serB] using p2'
  have hn4 := hc.n4
  have HC := fun (W : World) (hb : Below (w.alloc (.cells #[.int .i64 0, .int .i64 0, .int .i32 0, .int .i32 0] 91)).heap.size (w.alloc (.cells #[.int .i64 0, .int .i64 0, .int .i32 0, .int .i32 0] 91)) W) => hide (pclosed_any ((unhide H0).later hb) hc hnow t win ht1 (by omega) ⟨by omega, by omega⟩)
  have HBAD : Hid (¬ (inB t (-1) ((c.n : Int) - 1) = false ∨ serB ser = false ∨ win < 0 ∨ 100000 < win)) := by
    rintro (q | q | q | q)
    · exact p1 q
    · exact p2 q
    · exact p3 q
    · exact p4 q
  by_cases p5 : now - c.la < (win + 1) * c.width t
  · rw [show pquery c now L t ser win = (noCl, 9) from by unfold pquery; rw [if_neg (unhide HBAD), if_pos p5]]
    rw [show decide ((win + 1) * c.width t ≤ now - c.la) = false from by simp; omega] at HC
    clear p5 HBAD ht2
    go_enter Tryz.func34, Tryz.ntmps34
    go_wp2_with (first | (go_at_call 61; refine (unhide HH).mono ?_; rintro e w1 ⟨rfl, hb1⟩; have m8 := (hb1.cell (p := ⟨x, 9, none⟩) hxz).trans c9; have y0 : w1.cell? ⟨w.heap.size, 0, none⟩ = some (.int .i64 0) := (by rw [rcell ((hb1.block w.heap.size hq0).trans (unhide HL0))]; rfl); have y1 : w1.cell? ⟨w.heap.size, 1, none⟩ = some (.int .i64 0) := (by rw [rcell ((hb1.block w.heap.size hq0).trans (unhide HL0))]; rfl); have y2 : w1.cell? ⟨w.heap.size, 2, none⟩ = some (.int .i32 0) := (by rw [rcell ((hb1.block w.heap.size hq0).trans (unhide HL0))]; rfl); have y3 : w1.cell? ⟨w.heap.size, 3, none⟩ = some (.int .i32 0) := (by rw [rcell ((hb1.block w.heap.size hq0).trans (unhide HL0))]; rfl); have yf := fun j => rfree ((hb1.block w.heap.size hq0).trans (unhide HL0)) j; have HB1 := hide hb1) | (go_at_call 62; refine (unhide (HS _)).mono ?_; rintro e w2 ⟨rfl, rfl⟩) | (go_at_call 63; refine (unhide (HC _ hb1)).mono ?_; rintro e w3 ⟨rfl, hb3⟩; have hb13 := hb1.trans (hb3.mono hb1.size); have n9 := (hb13.cell (p := ⟨x, 9, none⟩) hxz).trans c9; have y0 : w3.cell? ⟨w.heap.size, 0, none⟩ = some (.int .i64 0) := (by rw [rcell ((hb13.block w.heap.size hq0).trans (unhide HL0))]; rfl); have y1 : w3.cell? ⟨w.heap.size, 1, none⟩ = some (.int .i64 0) := (by rw [rcell ((hb13.block w.heap.size hq0).trans (unhide HL0))]; rfl); have y2 : w3.cell? ⟨w.heap.size, 2, none⟩ = some (.int .i32 0) := (by rw [rcell ((hb13.block w.heap.size hq0).trans (unhide HL0))]; rfl); have y3 : w3.cell? ⟨w.heap.size, 3, none⟩ = some (.int .i32 0) := (by rw [rcell ((hb13.block w.heap.size hq0).trans (unhide HL0))]; rfl); have yf := fun j => rfree ((hb13.block w.heap.size hq0).trans (unhide HL0)) j; have HB13 := hide hb13))
    have e2 := ((unhide HB13).block w.heap.size hq0).trans (unhide HL0)
    have hf := set4c e2 (.int .i64 0) (.int .i64 0) (.int .i32 0) (.int .i32 0)
    refine bodyPost_ret (v := .tuple #[.agg #[.int .i64 0, .int .i64 0, .int .i32 0, .int .i32 0], .int .i64 9]) (results_row_tmp Tryz.results34 _ _ w.heap.size _ _ _ _ _ rfl rfl hf Tryz.underlying91 rfl (by kernel_rfl)) rfl ?_
    exact ⟨rfl, (unhide HB0).trans (((unhide HB13).mono (unhide HB0).size).trans (below4 (Nat.le_refl _) _ _ _ _))⟩
  rw [show decide ((win + 1) * c.width t ≤ now - c.la) = true from by simp; omega] at HC
  have hwf : (⟨t, ser, win⟩ : Sg).wf := by refine ⟨?_, ?_, ?_⟩ <;> unfold i64B <;> simp only <;> omega
  have HF := fun (W : World) (hb : Below (w.alloc (.cells #[.int .i64 0, .int .i64 0, .int .i32 0, .int .i32 0] 91)).heap.size (w.alloc (.cells #[.int .i64 0, .int .i64 0, .int .i32 0, .int .i32 0] 91)) W) => hide (pfind_any ((unhide H0).later hb).set ⟨t, ser, win⟩ hwf)
  have HPQ : Hid (pquery c now L t ser win = queryL L ⟨t, ser, win⟩) := by show _ = _; unfold pquery; rw [if_neg (unhide HBAD), if_neg p5]
  unfold clV at HF
  dsimp only at HF
  obtain ⟨v, hv⟩ : ∃ v, stL L ⟨t, ser, win⟩ = v := ⟨_, rfl⟩
  rw [hv] at HF hst
  have HV := hide hv
  clear p5 HBAD ht1 ht2 hv hwf hser
  by_cases p6 : v.st = 0
  · rw [unhide HPQ, show queryL L ⟨t, ser, win⟩ = (noCl, 10) from by unfold queryL; rw [unhide HV, if_pos p6]]
    have q6 : (v.st == 0) = true := by simp [p6]
    clear p6 hst
    go_enter Tryz.func34, Tryz.ntmps34
    go_wp2_with (first | (go_at_call 61; refine (unhide HH).mono ?_; rintro e w1 ⟨rfl, hb1⟩; have m8 := (hb1.cell (p := ⟨x, 9, none⟩) hxz).trans c9; have y0 : w1.cell? ⟨w.heap.size, 0, none⟩ = some (.int .i64 0) := (by rw [rcell ((hb1.block w.heap.size hq0).trans (unhide HL0))]; rfl); have y1 : w1.cell? ⟨w.heap.size, 1, none⟩ = some (.int .i64 0) := (by rw [rcell ((hb1.block w.heap.size hq0).trans (unhide HL0))]; rfl); have y2 : w1.cell? ⟨w.heap.size, 2, none⟩ = some (.int .i32 0) := (by rw [rcell ((hb1.block w.heap.size hq0).trans (unhide HL0))]; rfl); have y3 : w1.cell? ⟨w.heap.size, 3, none⟩ = some (.int .i32 0) := (by rw [rcell ((hb1.block w.heap.size hq0).trans (unhide HL0))]; rfl); have yf := fun j => rfree ((hb1.block w.heap.size hq0).trans (unhide HL0)) j; have HB1 := hide hb1) | (go_at_call 62; refine (unhide (HS _)).mono ?_; rintro e w2 ⟨rfl, rfl⟩) | (go_at_call 63; refine (unhide (HC _ hb1)).mono ?_; rintro e w3 ⟨rfl, hb3⟩; have hb13 := hb1.trans (hb3.mono hb1.size); have n9 := (hb13.cell (p := ⟨x, 9, none⟩) hxz).trans c9; have y0 : w3.cell? ⟨w.heap.size, 0, none⟩ = some (.int .i64 0) := (by rw [rcell ((hb13.block w.heap.size hq0).trans (unhide HL0))]; rfl); have y1 : w3.cell? ⟨w.heap.size, 1, none⟩ = some (.int .i64 0) := (by rw [rcell ((hb13.block w.heap.size hq0).trans (unhide HL0))]; rfl); have y2 : w3.cell? ⟨w.heap.size, 2, none⟩ = some (.int .i32 0) := (by rw [rcell ((hb13.block w.heap.size hq0).trans (unhide HL0))]; rfl); have y3 : w3.cell? ⟨w.heap.size, 3, none⟩ = some (.int .i32 0) := (by rw [rcell ((hb13.block w.heap.size hq0).trans (unhide HL0))]; rfl); have yf := fun j => rfree ((hb13.block w.heap.size hq0).trans (unhide HL0)) j; have HB13 := hide hb13))
    have HFW := HF w3 hb13
    clear HF HC HS HH c0 c1 c2 c3 c4 c5 c6 c9 m8 n9 y0 y1 y2 y3 yf
    refine (unhide HFW).mono ?_
    rintro e w4 ⟨rfl, hb4⟩
    have hb14 := hb13.trans (hb4.mono hb13.size)
    have y0 : w4.cell? ⟨w.heap.size, 0, none⟩ = some (.int .i64 0) := (by rw [rcell ((hb14.block w.heap.size hq0).trans (unhide HL0))]; rfl)
    have y1 : w4.cell? ⟨w.heap.size, 1, none⟩ = some (.int .i64 0) := (by rw [rcell ((hb14.block w.heap.size hq0).trans (unhide HL0))]; rfl)
    have y2 : w4.cell? ⟨w.heap.size, 2, none⟩ = some (.int .i32 0) := (by rw [rcell ((hb14.block w.heap.size hq0).trans (unhide HL0))]; rfl)
    have y3 : w4.cell? ⟨w.heap.size, 3, none⟩ = some (.int .i32 0) := (by rw [rcell ((hb14.block w.heap.size hq0).trans (unhide HL0))]; rfl)
    have yf := fun j => rfree ((hb14.block w.heap.size hq0).trans (unhide HL0)) j
    have hq4 : w.heap.size < w4.heap.size := Nat.lt_of_lt_of_le hq0 hb14.size
    have HB14 := hide hb14
    clear hb1 hb3 hb13 hb4 hb14
    go_wp2_with fail
    have e2 := ((unhide HB14).block w.heap.size hq0).trans (unhide HL0)
    have hf0 := set4c e2 (.int .i64 0) (.int .i64 0) (.int .i32 0) (.int .i32 0)
    have hf := (Below.heap_alloc _ (.cells #[.int .i64 v.cl.cnt, .int .i64 v.cl.sum, .int .i32 v.cl.mn, .int .i32 v.cl.mx] 91) _ (lt_of_heap hf0)).trans hf0
    have hbz := (unhide HB0).trans (((unhide HB14).mono (unhide HB0).size).trans (below4 (w := w4) (g := w.heap.size) (B := w.heap.size) (Nat.le_refl _) (.int .i64 0) (.int .i64 0) (.int .i32 0) (.int .i32 0)))
    refine bodyPost_ret (v := .tuple #[.agg #[.int .i64 0, .int .i64 0, .int .i32 0, .int .i32 0], .int .i64 10]) (results_row_tmp Tryz.results34 _ _ w.heap.size _ _ _ _ _ rfl rfl hf Tryz.underlying91 rfl (by kernel_rfl)) rfl ?_
    exact ⟨rfl, hbz.alloc hbz.size _⟩
  have q6 : (v.st == 0) = false := by simp [p6]
  by_cases p7 : v.st = 2
  · rw [unhide HPQ, show queryL L ⟨t, ser, win⟩ = (noCl, 11) from by unfold queryL; rw [unhide HV, if_neg p6, if_pos p7]]
    have q7 : (v.st == 2) = true := by simp [p7]
    clear p6 p7 hst
    go_enter Tryz.func34, Tryz.ntmps34
    go_wp2_with (first | (go_at_call 61; refine (unhide HH).mono ?_; rintro e w1 ⟨rfl, hb1⟩; have m8 := (hb1.cell (p := ⟨x, 9, none⟩) hxz).trans c9; have y0 : w1.cell? ⟨w.heap.size, 0, none⟩ = some (.int .i64 0) := (by rw [rcell ((hb1.block w.heap.size hq0).trans (unhide HL0))]; rfl); have y1 : w1.cell? ⟨w.heap.size, 1, none⟩ = some (.int .i64 0) := (by rw [rcell ((hb1.block w.heap.size hq0).trans (unhide HL0))]; rfl); have y2 : w1.cell? ⟨w.heap.size, 2, none⟩ = some (.int .i32 0) := (by rw [rcell ((hb1.block w.heap.size hq0).trans (unhide HL0))]; rfl); have y3 : w1.cell? ⟨w.heap.size, 3, none⟩ = some (.int .i32 0) := (by rw [rcell ((hb1.block w.heap.size hq0).trans (unhide HL0))]; rfl); have yf := fun j => rfree ((hb1.block w.heap.size hq0).trans (unhide HL0)) j; have HB1 := hide hb1) | (go_at_call 62; refine (unhide (HS _)).mono ?_; rintro e w2 ⟨rfl, rfl⟩) | (go_at_call 63; refine (unhide (HC _ hb1)).mono ?_; rintro e w3 ⟨rfl, hb3⟩; have hb13 := hb1.trans (hb3.mono hb1.size); have n9 := (hb13.cell (p := ⟨x, 9, none⟩) hxz).trans c9; have y0 : w3.cell? ⟨w.heap.size, 0, none⟩ = some (.int .i64 0) := (by rw [rcell ((hb13.block w.heap.size hq0).trans (unhide HL0))]; rfl); have y1 : w3.cell? ⟨w.heap.size, 1, none⟩ = some (.int .i64 0) := (by rw [rcell ((hb13.block w.heap.size hq0).trans (unhide HL0))]; rfl); have y2 : w3.cell? ⟨w.heap.size, 2, none⟩ = some (.int .i32 0) := (by rw [rcell ((hb13.block w.heap.size hq0).trans (unhide HL0))]; rfl); have y3 : w3.cell? ⟨w.heap.size, 3, none⟩ = some (.int .i32 0) := (by rw [rcell ((hb13.block w.heap.size hq0).trans (unhide HL0))]; rfl); have yf := fun j => rfree ((hb13.block w.heap.size hq0).trans (unhide HL0)) j; have HB13 := hide hb13))
    have HFW := HF w3 hb13
    clear HF HC HS HH c0 c1 c2 c3 c4 c5 c6 c9 m8 n9 y0 y1 y2 y3 yf
    refine (unhide HFW).mono ?_
    rintro e w4 ⟨rfl, hb4⟩
    have hb14 := hb13.trans (hb4.mono hb13.size)
    have y0 : w4.cell? ⟨w.heap.size, 0, none⟩ = some (.int .i64 0) := (by rw [rcell ((hb14.block w.heap.size hq0).trans (unhide HL0))]; rfl)
    have y1 : w4.cell? ⟨w.heap.size, 1, none⟩ = some (.int .i64 0) := (by rw [rcell ((hb14.block w.heap.size hq0).trans (unhide HL0))]; rfl)
    have y2 : w4.cell? ⟨w.heap.size, 2, none⟩ = some (.int .i32 0) := (by rw [rcell ((hb14.block w.heap.size hq0).trans (unhide HL0))]; rfl)
    have y3 : w4.cell? ⟨w.heap.size, 3, none⟩ = some (.int .i32 0) := (by rw [rcell ((hb14.block w.heap.size hq0).trans (unhide HL0))]; rfl)
    have yf := fun j => rfree ((hb14.block w.heap.size hq0).trans (unhide HL0)) j
    have hq4 : w.heap.size < w4.heap.size := Nat.lt_of_lt_of_le hq0 hb14.size
    have HB14 := hide hb14
    clear hb1 hb3 hb13 hb4 hb14
    go_wp2_with fail
    have e2 := ((unhide HB14).block w.heap.size hq0).trans (unhide HL0)
    have hf0 := set4c e2 (.int .i64 0) (.int .i64 0) (.int .i32 0) (.int .i32 0)
    have hf := (Below.heap_alloc _ (.cells #[.int .i64 v.cl.cnt, .int .i64 v.cl.sum, .int .i32 v.cl.mn, .int .i32 v.cl.mx] 91) _ (lt_of_heap hf0)).trans hf0
    have hbz := (unhide HB0).trans (((unhide HB14).mono (unhide HB0).size).trans (below4 (w := w4) (g := w.heap.size) (B := w.heap.size) (Nat.le_refl _) (.int .i64 0) (.int .i64 0) (.int .i32 0) (.int .i32 0)))
    refine bodyPost_ret (v := .tuple #[.agg #[.int .i64 0, .int .i64 0, .int .i32 0, .int .i32 0], .int .i64 11]) (results_row_tmp Tryz.results34 _ _ w.heap.size _ _ _ _ _ rfl rfl hf Tryz.underlying91 rfl (by kernel_rfl)) rfl ?_
    exact ⟨rfl, hbz.alloc hbz.size _⟩
  have q7 : (v.st == 2) = false := by simp [p7]
  have q8 : (v.st == 4) = false := by simp [hst]
  rw [unhide HPQ, show queryL L ⟨t, ser, win⟩ = (v.cl, 0) from by unfold queryL; rw [unhide HV, if_neg p6, if_neg p7]]
  clear p6 p7 hst
  go_enter Tryz.func34, Tryz.ntmps34
  go_wp2_with (first | (go_at_call 61; refine (unhide HH).mono ?_; rintro e w1 ⟨rfl, hb1⟩; have m8 := (hb1.cell (p := ⟨x, 9, none⟩) hxz).trans c9; have y0 : w1.cell? ⟨w.heap.size, 0, none⟩ = some (.int .i64 0) := (by rw [rcell ((hb1.block w.heap.size hq0).trans (unhide HL0))]; rfl); have y1 : w1.cell? ⟨w.heap.size, 1, none⟩ = some (.int .i64 0) := (by rw [rcell ((hb1.block w.heap.size hq0).trans (unhide HL0))]; rfl); have y2 : w1.cell? ⟨w.heap.size, 2, none⟩ = some (.int .i32 0) := (by rw [rcell ((hb1.block w.heap.size hq0).trans (unhide HL0))]; rfl); have y3 : w1.cell? ⟨w.heap.size, 3, none⟩ = some (.int .i32 0) := (by rw [rcell ((hb1.block w.heap.size hq0).trans (unhide HL0))]; rfl); have yf := fun j => rfree ((hb1.block w.heap.size hq0).trans (unhide HL0)) j; have HB1 := hide hb1) | (go_at_call 62; refine (unhide (HS _)).mono ?_; rintro e w2 ⟨rfl, rfl⟩) | (go_at_call 63; refine (unhide (HC _ hb1)).mono ?_; rintro e w3 ⟨rfl, hb3⟩; have hb13 := hb1.trans (hb3.mono hb1.size); have n9 := (hb13.cell (p := ⟨x, 9, none⟩) hxz).trans c9; have y0 : w3.cell? ⟨w.heap.size, 0, none⟩ = some (.int .i64 0) := (by rw [rcell ((hb13.block w.heap.size hq0).trans (unhide HL0))]; rfl); have y1 : w3.cell? ⟨w.heap.size, 1, none⟩ = some (.int .i64 0) := (by rw [rcell ((hb13.block w.heap.size hq0).trans (unhide HL0))]; rfl); have y2 : w3.cell? ⟨w.heap.size, 2, none⟩ = some (.int .i32 0) := (by rw [rcell ((hb13.block w.heap.size hq0).trans (unhide HL0))]; rfl); have y3 : w3.cell? ⟨w.heap.size, 3, none⟩ = some (.int .i32 0) := (by rw [rcell ((hb13.block w.heap.size hq0).trans (unhide HL0))]; rfl); have yf := fun j => rfree ((hb13.block w.heap.size hq0).trans (unhide HL0)) j; have HB13 := hide hb13))
  have HFW := HF w3 hb13
  clear HF HC HS HH c0 c1 c2 c3 c4 c5 c6 c9 m8 n9 y0 y1 y2 y3 yf
  refine (unhide HFW).mono ?_
  rintro e w4 ⟨rfl, hb4⟩
  have hb14 := hb13.trans (hb4.mono hb13.size)
  have y0 : w4.cell? ⟨w.heap.size, 0, none⟩ = some (.int .i64 0) := (by rw [rcell ((hb14.block w.heap.size hq0).trans (unhide HL0))]; rfl)
  have y1 : w4.cell? ⟨w.heap.size, 1, none⟩ = some (.int .i64 0) := (by rw [rcell ((hb14.block w.heap.size hq0).trans (unhide HL0))]; rfl)
  have y2 : w4.cell? ⟨w.heap.size, 2, none⟩ = some (.int .i32 0) := (by rw [rcell ((hb14.block w.heap.size hq0).trans (unhide HL0))]; rfl)
  have y3 : w4.cell? ⟨w.heap.size, 3, none⟩ = some (.int .i32 0) := (by rw [rcell ((hb14.block w.heap.size hq0).trans (unhide HL0))]; rfl)
  have yf := fun j => rfree ((hb14.block w.heap.size hq0).trans (unhide HL0)) j
  have hq4 : w.heap.size < w4.heap.size := Nat.lt_of_lt_of_le hq0 hb14.size
  have HB14 := hide hb14
  clear hb1 hb3 hb13 hb4 hb14
  go_wp2_with fail
  have e2 := ((unhide HB14).block w.heap.size hq0).trans (unhide HL0)
  have hf0 := set4c e2 (.int .i64 v.cl.cnt) (.int .i64 v.cl.sum) (.int .i32 v.cl.mn) (.int .i32 v.cl.mx)
  have hf := (Below.heap_alloc _ (.cells #[.int .i64 v.cl.cnt, .int .i64 v.cl.sum, .int .i32 v.cl.mn, .int .i32 v.cl.mx] 91) _ (lt_of_heap hf0)).trans hf0
  have hbz := (unhide HB0).trans (((unhide HB14).mono (unhide HB0).size).trans (below4 (w := w4) (g := w.heap.size) (B := w.heap.size) (Nat.le_refl _) (.int .i64 v.cl.cnt) (.int .i64 v.cl.sum) (.int .i32 v.cl.mn) (.int .i32 v.cl.mx)))
  refine bodyPost_ret (v := .tuple #[.agg #[.int .i64 v.cl.cnt, .int .i64 v.cl.sum, .int .i32 v.cl.mn, .int .i32 v.cl.mx], .int .i64 0]) (results_row_tmp Tryz.results34 _ _ w.heap.size _ _ _ _ _ rfl rfl hf Tryz.underlying91 rfl (by kernel_rfl)) rfl ?_
  exact ⟨rfl, hbz.alloc hbz.size _⟩
end Go.Proofs.YtgadceofpbfleaaGreat
