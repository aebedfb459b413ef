import Derived.Test.YtgadceofpbfleaaGreatQSeq2
import Derived.Test.YtgadceofpbfleaaGreatQSeq3
import Derived.Laws.ResultCell

/- The program's set of segments in memory; walks: use, Used, Count. -/
namespace Go.Proofs.YtgadceofpbfleaaGreat
open Go.RowKit Go.Maps Go.Shelf
set_option linter.unusedVariables false

/-- the program's set of segments at block s: its live map at lb, the map of what is gone at gb; the tiers in a row of their own. -/
structure SetAt (w : World) (s : Nat) (c : Cf) (tv : Value) (lb gb : Nat) (L : LV) : Prop where
  head : w.heap[s]? = some (.cells #[.int .i64 c.s, .int .i64 c.le, .int .i64 c.la, .int .i64 c.wi, .int .i64 c.ke, .int .i64 c.qu, tv, .map (some lb), .map (some gb)] 142 (0, 0))
  trow : w.ownsRow 0 32 3 tv c.n (row3 c.n c.F c.W c.K)
  live : LiveAt w lb L
  gone : w.heap[gb]? = some (.map #[] 0)
  apart : gb ≠ lb

/-- what of it does not turn. -/
structure HeadAt (w : World) (s : Nat) (c : Cf) (tv : Value) (lb gb : Nat) : Prop where
  head : w.heap[s]? = some (.cells #[.int .i64 c.s, .int .i64 c.le, .int .i64 c.la, .int .i64 c.wi, .int .i64 c.ke, .int .i64 c.qu, tv, .map (some lb), .map (some gb)] 142 (0, 0))
  trow : w.ownsRow 0 32 3 tv c.n (row3 c.n c.F c.W c.K)
theorem SetAt.hd {w : World} {s : Nat} {c : Cf} {tv : Value} {lb gb : Nat} {L : LV} (h : SetAt w s c tv lb gb L) : HeadAt w s c tv lb gb := ⟨h.head, h.trow⟩
theorem HeadAt.lt {w : World} {s : Nat} {c : Cf} {tv : Value} {lb gb : Nat} (h : HeadAt w s c tv lb gb) : s < w.heap.size := lt_of_heap h.head
theorem HeadAt.kept {f : Nat → Prop} {w w' : World} {s : Nat} {c : Cf} {tv : Value} {lb gb : Nat} (h : HeadAt w s c tv lb gb) (hk : Kept f w w') (h1 : ¬ f s) (h2 : ∀ k, tv.ownBlock = some k → ¬ f k) : HeadAt w' s c tv lb gb := ⟨hk.heap h.head h1, owns_kept h.trow hk h2⟩
theorem HeadAt.later {w w' : World} {s : Nat} {c : Cf} {tv : Value} {lb gb : Nat} (h : HeadAt w s c tv lb gb) (hb : Below w.heap.size w w') : HeadAt w' s c tv lb gb := h.kept (f := fun _ => False) (Kept.of_below hb) (fun h => h) (fun _ _ h => h)
theorem HeadAt.cells {w : World} {s : Nat} {c : Cf} {tv : Value} {lb gb : Nat} (h : HeadAt w s c tv lb gb) : w.cell? ⟨s, 0, none⟩ = some (.int .i64 c.s) ∧ w.cell? ⟨s, 1, none⟩ = some (.int .i64 c.le) ∧ w.cell? ⟨s, 2, none⟩ = some (.int .i64 c.la) ∧ w.cell? ⟨s, 3, none⟩ = some (.int .i64 c.wi) ∧ w.cell? ⟨s, 4, none⟩ = some (.int .i64 c.ke) ∧ w.cell? ⟨s, 5, none⟩ = some (.int .i64 c.qu) ∧ w.cell? ⟨s, 6, none⟩ = some tv ∧ w.cell? ⟨s, 7, none⟩ = some (.map (some lb)) ∧ w.cell? ⟨s, 8, none⟩ = some (.map (some gb)) := by
  refine ⟨?_, ?_, ?_, ?_, ?_, ?_, ?_, ?_, ?_⟩ <;> rw [rcell h.head] <;> rfl

/-- its blocks. -/
def sfoot (s : Nat) (tv : Value) (lb gb : Nat) (k : Nat) : Prop := k = s ∨ tv.ownBlock = some k ∨ k = lb ∨ k = gb

section
variable {w : World} {s : Nat} {c : Cf} {tv : Value} {lb gb : Nat} {L : LV}
theorem SetAt.lt (h : SetAt w s c tv lb gb L) : s < w.heap.size := lt_of_heap h.head
theorem SetAt.kept {f : Nat → Prop} {w' : World} (h : SetAt w s c tv lb gb L) (hk : Kept f w w') (hn : ∀ k, sfoot s tv lb gb k → ¬ f k) : SetAt w' s c tv lb gb L :=
  ⟨hk.heap h.head (hn s (.inl rfl)), owns_kept h.trow hk (fun k hh => hn k (.inr (.inl hh))), h.live.kept hk (hn lb (.inr (.inr (.inl rfl)))), hk.heap h.gone (hn gb (.inr (.inr (.inr rfl)))), h.apart⟩
theorem SetAt.later {w' : World} (h : SetAt w s c tv lb gb L) (hb : Below w.heap.size w w') : SetAt w' s c tv lb gb L :=
  h.kept (f := fun _ => False) (Kept.of_below hb) (fun _ _ hh => hh)
theorem SetAt.cells (h : SetAt w s c tv lb gb L) : w.cell? ⟨s, 0, none⟩ = some (.int .i64 c.s) ∧ w.cell? ⟨s, 1, none⟩ = some (.int .i64 c.le) ∧ w.cell? ⟨s, 2, none⟩ = some (.int .i64 c.la) ∧ w.cell? ⟨s, 3, none⟩ = some (.int .i64 c.wi) ∧ w.cell? ⟨s, 4, none⟩ = some (.int .i64 c.ke) ∧ w.cell? ⟨s, 5, none⟩ = some (.int .i64 c.qu) ∧ w.cell? ⟨s, 6, none⟩ = some tv ∧ w.cell? ⟨s, 7, none⟩ = some (.map (some lb)) ∧ w.cell? ⟨s, 8, none⟩ = some (.map (some gb)) := by
  refine ⟨?_, ?_, ?_, ?_, ?_, ?_, ?_, ?_, ?_⟩ <;> rw [rcell h.head] <;> rfl
end

set_option maxHeartbeats 1000000 in
theorem use_any (x : SV) (w : World) : Calls Tryz.prog 80 #[.agg #[.int .i64 x.st, .int .i64 x.cl.cnt, .int .i64 x.cl.sum, .int .i32 x.cl.mn, .int .i32 x.cl.mx]] w fun e w' => e = .returned (.int .i64 (useSV x)) ∧ Below w.heap.size w w' := by
  by_cases h : x.st = 1
  · have hb : (x.st == 1) = true := by simp [h]
    rw [show useSV x = x.cl.cnt from by simp [useSV, h]]
    clear h
    go_enter Tryz.func80, Tryz.ntmps80
    go_wp2_with fail
    go_ret
    exact ⟨rfl, (Below.refl _ _).alloc (Nat.le_refl _) _⟩
  · have hb : (x.st == 1) = false := by simp [h]
    rw [show useSV x = 2 from by simp [useSV, h]]
    clear h
    go_enter Tryz.func80, Tryz.ntmps80
    go_wp2_with fail
    go_ret
    exact ⟨rfl, (Below.refl _ _).alloc (Nat.le_refl _) _⟩

set_option maxHeartbeats 1000000 in
theorem scount1_any (x : SV) (hb : Nat) (k : Int) (w : World) (hc : w.cell? ⟨hb, 0, none⟩ = some (.int .i64 k)) (hl : hb < w.heap.size) : Calls Tryz.prog 82 #[.agg #[.int .i64 x.st, .int .i64 x.cl.cnt, .int .i64 x.cl.sum, .int .i32 x.cl.mn, .int .i32 x.cl.mx], .pointer (some ⟨hb, 0, none⟩)] w fun e w' => e = .returned (.bool (x.st == k)) ∧ Below w.heap.size w w' := by
  go_enter Tryz.func82, Tryz.ntmps82
  go_wp2_with fail
  go_ret
  exact ⟨rfl, (Below.refl _ _).alloc (Nat.le_refl _) _⟩

set_option maxHeartbeats 1000000 in
theorem lcount1_any (x : SV) (hb h1 : Nat) (k : Int) (w : World) (hc : w.cell? ⟨hb, 0, none⟩ = some (.func (.func 82) #[] #[.pointer (some ⟨h1, 0, none⟩)])) (hl : hb < w.heap.size) (hc1 : w.cell? ⟨h1, 0, none⟩ = some (.int .i64 k)) (hl1 : h1 < w.heap.size) : Calls Tryz.prog 100 #[.agg #[.int .i64 x.st, .int .i64 x.cl.cnt, .int .i64 x.cl.sum, .int .i32 x.cl.mn, .int .i32 x.cl.mx], .pointer (some ⟨hb, 0, none⟩)] w fun e w' => e = .returned (.int .i64 (isSt k x)) ∧ Below w.heap.size w w' := by
  have hb0 : ∀ o, Below w.heap.size w (w.alloc o) := fun o => (Below.refl _ _).alloc (Nat.le_refl _) _
  have HC := fun o => hide (scount1_any x h1 k (w.alloc o) (((hb0 o).cell (p := ⟨h1, 0, none⟩) hl1).trans hc1) (by simp; omega))
  by_cases h : x.st = k
  · have he : (x.st == k) = true := by simp [h]
    rw [show isSt k x = 1 from by simp [isSt, h]]
    rw [he] at HC
    clear h he
    go_enter Tryz.func100, Tryz.ntmps100
    go_wp2_with fail
    refine (unhide (HC _)).mono ?_
    rintro e w1 ⟨rfl, hb1⟩
    go_wp2_with fail
    go_ret
    exact ⟨rfl, (hb0 _).trans (hb1.mono (hb0 _).size)⟩
  · have he : (x.st == k) = false := by simp [h]
    rw [show isSt k x = 0 from by simp [isSt, h]]
    rw [he] at HC
    clear h he
    go_enter Tryz.func100, Tryz.ntmps100
    go_wp2_with fail
    refine (unhide (HC _)).mono ?_
    rintro e w1 ⟨rfl, hb1⟩
    go_wp2_with fail
    go_ret
    exact ⟨rfl, (hb0 _).trans (hb1.mono (hb0 _).size)⟩

theorem mv_enters : ∀ args w, (callFunc 99 args).run Tryz.prog w = .ok (.enter 99 args) w := enters_of Tryz.func99 (by kernel_rfl) rfl

set_option maxHeartbeats 1000000 in
/-- lists.Count over the map's elements, of a state. -/
theorem lcount_any (L : LV) (Bm b h1 : Nat) (k : Int) (w : World) (hBm : Bm < w.heap.size) (hm : w.cell? ⟨Bm, 0, none⟩ = some (.map (some b))) (hown : LiveAt w b L) (hc1 : w.cell? ⟨h1, 0, none⟩ = some (.int .i64 k)) (hl1 : h1 < w.heap.size) :
    Calls Tryz.prog 81 #[.func (.func 99) #[] #[.pointer (some ⟨Bm, 0, none⟩)], .func (.func 82) #[] #[.pointer (some ⟨h1, 0, none⟩)]] w fun e w' => ∃ xs : List SV, xs.Perm (L.map (·.2)) ∧ e = .returned (.int .i64 (wsum (xs.map (isSt k)))) ∧ Below w.heap.size w w' := by
  have hb0 : ∀ o, Below w.heap.size w (w.alloc o) := fun o => (Below.refl _ _).alloc (Nat.le_refl _) _
  have HS := hide (sum_count w.heap.size 99 #[.pointer (some ⟨Bm, 0, none⟩)] mv_enters (isSt k) (w.alloc (.cells #[.func (.func 82) #[] #[.pointer (some ⟨h1, 0, none⟩)]] 151)) (keeping_walks _)
    (fun x W hW => lcount1_any x w.heap.size h1 k W ((hW.cell (p := ⟨w.heap.size, 0, none⟩) (by simp)).trans (by rw [rcell (rlast _ _)]; rfl)) (by have := hW.size; simp at this; omega) (((hb0 _).trans (hW.mono (hb0 _).size)).cell (p := ⟨h1, 0, none⟩) hl1 |>.trans hc1) (by have := hW.size; simp at this; omega))
    (mvalues_stops 6 (by omega) Bm b L _ (by simp; omega) (((hb0 _).cell (p := ⟨Bm, 0, none⟩) hBm).trans hm) (hown.later (hb0 _))))
  go_enter Tryz.func81, Tryz.ntmps81
  go_wp2_with fail
  refine (unhide HS).mono ?_
  rintro e w1 ⟨xs, hx, rfl, hb1⟩
  go_wp2_with fail
  go_ret
  exact ⟨xs, hx, rfl, (hb0 _).trans (hb1.mono (hb0 _).size)⟩

theorem wsum_perm {L : LV} {xs : List SV} (f : SV → Int) (h : xs.Perm (L.map (·.2))) (hs : i64B (sumI (L.map (fun p => f p.2)))) : wsum (xs.map f) = sumI (L.map (fun p => f p.2)) := by
  have e : sumI (xs.map f) = sumI (L.map (fun p => f p.2)) := by
    have h1 := sumI_perm (h.map f)
    rw [List.map_map] at h1
    exact h1
  rw [← e]; apply wsum_small; rw [e]; exact hs

set_option maxHeartbeats 1000000 in
theorem pused_any {w : World} {s : Nat} {c : Cf} {tv : Value} {lb gb : Nat} {L : LV} (h : SetAt w s c tv lb gb L) (hs : i64B (usedL L)) :
    Calls Tryz.prog 46 #[.pointer (some ⟨s, 0, none⟩)] w fun e w' => e = .returned (.int .i64 (usedL L)) ∧ Below w.heap.size w w' := by
  have hsl := h.lt
  obtain ⟨-, -, -, -, -, -, -, c7, -⟩ := h.cells
  have hb0 : ∀ o, Below w.heap.size w (w.alloc o) := fun o => (Below.refl _ _).alloc (Nat.le_refl _) _
  have HV := hide (mvalues_any lb w)
  have HS := hide (sum_use 99 #[.pointer (some ⟨w.heap.size, 0, none⟩)] mv_enters useSV (w.alloc (.cells #[.map (some lb)] 139)) (keeping_walks _)
    (fun x W hW => use_any x W)
    (mvalues_stops 6 (by omega) w.heap.size lb L _ (by simp) (by rw [rcell (rlast _ _)]; rfl) (h.live.later (hb0 _))))
  have HL := hide hs
  clear h hs
  go_enter Tryz.func46, Tryz.ntmps46
  go_wp2_with fail
  refine (unhide HV).mono ?_
  rintro e w1 ⟨rfl, rfl⟩
  go_wp2_with fail
  refine (unhide HS).mono ?_
  rintro e w1 ⟨xs, hx, rfl, hb1⟩
  go_wp2_with fail
  go_ret
  exact ⟨by rw [wsum_perm useSV hx (unhide HL)]; rfl, (hb0 _).trans (hb1.mono (hb0 _).size)⟩

set_option maxHeartbeats 1000000 in
theorem pcount_any {w : World} {s : Nat} {c : Cf} {tv : Value} {lb gb : Nat} {L : LV} (h : SetAt w s c tv lb gb L) (k : Int) (hk : (k == 4) = false) (hs : i64B (countL L k)) :
    Calls Tryz.prog 49 #[.pointer (some ⟨s, 0, none⟩), .int .i64 k] w fun e w' => e = .returned (.int .i64 (countL L k)) ∧ Below w.heap.size w w' := by
  have hsl := h.lt
  obtain ⟨-, -, -, -, -, -, -, c7, -⟩ := h.cells
  have hb0 : ∀ o, Below w.heap.size w (w.alloc o) := fun o => (Below.refl _ _).alloc (Nat.le_refl _) _
  obtain ⟨y0, y1, hbw, yz⟩ := box2 w (.cells #[.int .i64 k] 111) (.cells #[.map (some lb)] 139)
  have HV := hide (mvalues_any lb (w.alloc (.cells #[.int .i64 k] 111)))
  have HS := hide (lcount_any L (w.heap.size + 1) lb w.heap.size k _ (by rw [yz]; omega) (by rw [rcell y1]; rfl) (h.live.later hbw) (by rw [rcell y0]; rfl) (by rw [yz]; omega))
  have HL := hide hs
  have HBW := hide hbw
  have c7' := ((hb0 (.cells #[.int .i64 k] 111)).cell (p := ⟨s, 7, none⟩) hsl).trans c7
  clear h hs y0 y1 hbw yz
  go_enter Tryz.func49, Tryz.ntmps49
  go_wp2_with fail
  refine (unhide HV).mono ?_
  rintro e w1 ⟨rfl, rfl⟩
  go_wp2_with fail
  refine (unhide HS).mono ?_
  rintro e w1 ⟨xs, hx, rfl, hb1⟩
  go_wp2_with fail
  go_ret
  exact ⟨by rw [wsum_perm (isSt k) hx (unhide HL)]; rfl, (unhide HBW).trans (hb1.mono (unhide HBW).size)⟩

set_option maxHeartbeats 1000000 in
theorem pgone_any {w : World} {s : Nat} {c : Cf} {tv : Value} {lb gb : Nat} {L : LV} (h : SetAt w s c tv lb gb L) :
    Calls Tryz.prog 49 #[.pointer (some ⟨s, 0, none⟩), .int .i64 4] w fun e w' => e = .returned (.int .i64 0) ∧ Below w.heap.size w w' := by
  have hsl := h.lt
  obtain ⟨-, -, -, -, -, -, -, -, c8⟩ := h.cells
  have hb0 : ∀ o, Below w.heap.size w (w.alloc o) := fun o => (Below.refl _ _).alloc (Nat.le_refl _) _
  have hg := (Below.heap_alloc w (.cells #[.int .i64 4] 111) gb (lt_of_heap h.gone)).trans h.gone
  have hlen : (Builtin.len_ #[140] 3 #[.map (some gb)]).run Tryz.prog (w.alloc (.cells #[.int .i64 4] 111)) = .ok (.int .i64 0) (w.alloc (.cells #[.int .i64 4] 111)) := by
    simp [Builtin.len_, MapKept.run_getObj_map hg, Result.andThen]
    rfl
  clear h hg
  go_enter Tryz.func49, Tryz.ntmps49
  go_wp2_with fail
  go_ret
  exact ⟨rfl, hb0 _⟩
end Go.Proofs.YtgadceofpbfleaaGreat

/- Walks: the layout's small calls; key, Find, missing. -/
namespace Go.Proofs.YtgadceofpbfleaaGreat
open Go.RowKit Go.Maps Go.Shelf
set_option linter.unusedVariables false

abbrev layV (c : Cf) (a : Option Addr) (cap : Nat) : Value := .agg #[.int .i64 c.s, .int .i64 c.le, .int .i64 c.la, .int .i64 c.wi, .int .i64 c.ke, .int .i64 c.qu, .slice a c.n cap]

theorem ltiers_any (c : Cf) (a : Option Addr) (cap : Nat) (w : World) : Calls Tryz.prog 95 #[.agg #[.int .i64 c.s, .int .i64 c.le, .int .i64 c.la, .int .i64 c.wi, .int .i64 c.ke, .int .i64 c.qu, .slice a c.n cap]] w fun e w' => e = .returned (.int .i64 c.n) ∧ Below w.heap.size w w' := by
  go_enter Tryz.func95, Tryz.ntmps95
  go_wp2_with fail
  go_ret
  exact ⟨rfl, (Below.refl _ _).alloc (Nat.le_refl _) _⟩
theorem llag_any (c : Cf) (a : Option Addr) (cap : Nat) (w : World) : Calls Tryz.prog 86 #[.agg #[.int .i64 c.s, .int .i64 c.le, .int .i64 c.la, .int .i64 c.wi, .int .i64 c.ke, .int .i64 c.qu, .slice a c.n cap]] w fun e w' => e = .returned (.int .i64 c.la) ∧ Below w.heap.size w w' := by
  go_enter Tryz.func86, Tryz.ntmps86
  go_wp2_with fail
  go_ret
  exact ⟨rfl, (Below.refl _ _).alloc (Nat.le_refl _) _⟩
theorem lquota_any (c : Cf) (a : Option Addr) (cap : Nat) (w : World) : Calls Tryz.prog 48 #[.agg #[.int .i64 c.s, .int .i64 c.le, .int .i64 c.la, .int .i64 c.wi, .int .i64 c.ke, .int .i64 c.qu, .slice a c.n cap]] w fun e w' => e = .returned (.int .i64 c.qu) ∧ Below w.heap.size w w' := by
  go_enter Tryz.func48, Tryz.ntmps48
  go_wp2_with fail
  go_ret
  exact ⟨rfl, (Below.refl _ _).alloc (Nat.le_refl _) _⟩

set_option maxHeartbeats 1000000 in
theorem lwindow_any (c : Cf) (hc : c.ok) (a : Option Addr) (cap : Nat) (t tm : Int) (ht1 : -1 ≤ t) (ht2 : t < c.n) (htm : 0 ≤ tm ∧ tm ≤ 100000) (w : World) (hts : TS w a c.n c.F c.W c.K) : Calls Tryz.prog 115 #[.agg #[.int .i64 c.s, .int .i64 c.le, .int .i64 c.la, .int .i64 c.wi, .int .i64 c.ke, .int .i64 c.qu, .slice a c.n cap], .int .i64 t, .int .i64 tm] w fun e w' => e = .returned (.int .i64 (tm / c.width t)) ∧ Below w.heap.size w w' := by
  have hb0 : ∀ o, Below w.heap.size w (w.alloc o) := fun o => (Below.refl _ _).alloc (Nat.le_refl _) _
  obtain ⟨hw1, hw2⟩ := hc.width ht1 ht2
  obtain ⟨hm1, hm2⟩ := htm
  have hn4 := hc.n4
  have HW : Hid (widthOf c.wi c.W t = c.width t) := rfl
  have HWC := fun o => hide (width_any c.s c.le c.la c.wi c.ke c.qu a c.n cap c.F c.W c.K t ht1 ht2 hn4 (w.alloc o) (hts.below (hb0 o)))
  go_enter Tryz.func115, Tryz.ntmps115
  go_wp2_with fail
  refine (unhide (HWC _)).mono ?_
  rintro e w1 ⟨rfl, hb1⟩
  rw [unhide HW]
  go_wp2_with fail
  go_ret
  exact ⟨rfl, (hb0 _).trans (hb1.mono (hb0 _).size)⟩

set_option maxHeartbeats 1000000 in
theorem lend_any (c : Cf) (hc : c.ok) (a : Option Addr) (cap : Nat) (t win : Int) (ht1 : -1 ≤ t) (ht2 : t < c.n) (hwn : 0 ≤ win ∧ win ≤ 100000) (w : World) (hts : TS w a c.n c.F c.W c.K) : Calls Tryz.prog 96 #[.agg #[.int .i64 c.s, .int .i64 c.le, .int .i64 c.la, .int .i64 c.wi, .int .i64 c.ke, .int .i64 c.qu, .slice a c.n cap], .int .i64 t, .int .i64 win] w fun e w' => e = .returned (.int .i64 ((win + 1) * c.width t)) ∧ Below w.heap.size w w' := by
  have hb0 : ∀ o, Below w.heap.size w (w.alloc o) := fun o => (Below.refl _ _).alloc (Nat.le_refl _) _
  obtain ⟨hw1, hw2⟩ := hc.width ht1 ht2
  obtain ⟨hm1, hm2⟩ := hwn
  have hn4 := hc.n4
  have HW : Hid (widthOf c.wi c.W t = c.width t) := rfl
  have HWC := fun o => hide (width_any c.s c.le c.la c.wi c.ke c.qu a c.n cap c.F c.W c.K t ht1 ht2 hn4 (w.alloc o) (hts.below (hb0 o)))
  have hmul : 0 ≤ (win + 1) * c.width t ∧ (win + 1) * c.width t ≤ 1000000000 := by
    constructor
    · exact Int.mul_nonneg (by omega) (by omega)
    · have := Int.mul_le_mul (show win + 1 ≤ 100001 by omega) hw2 (by omega) (by omega); omega
  obtain ⟨hl1, hl2⟩ := hmul
  have hw64 : wrap64 ((win + 1) * c.width t) = (win + 1) * c.width t := by unfold wrap64; omega
  go_enter Tryz.func96, Tryz.ntmps96
  go_wp2_with fail
  refine (unhide (HWC _)).mono ?_
  rintro e w1 ⟨rfl, hb1⟩
  rw [unhide HW]
  go_wp2_with fail
  go_ret
  exact ⟨by first | rfl | rw [hw64], (hb0 _).trans (hb1.mono (hb0 _).size)⟩

set_option maxHeartbeats 1000000 in
theorem lhas_any (c : Cf) (hc : c.ok) (a : Option Addr) (cap : Nat) (t : Int) (w : World) : Calls Tryz.prog 61 #[.agg #[.int .i64 c.s, .int .i64 c.le, .int .i64 c.la, .int .i64 c.wi, .int .i64 c.ke, .int .i64 c.qu, .slice a c.n cap], .int .i64 t] w fun e w' => e = .returned (.bool (inB t (-1) ((c.n : Int) - 1))) ∧ Below w.heap.size w w' := by
  have hb0 : ∀ o, Below w.heap.size w (w.alloc o) := fun o => (Below.refl _ _).alloc (Nat.le_refl _) _
  have hn4 := hc.n4
  have hn1 := hc.n1
  have HT := fun o => hide (ltiers_any c a cap (w.alloc o))
  go_enter Tryz.func61, Tryz.ntmps61
  go_wp2_with fail
  refine (unhide (HT _)).mono ?_
  rintro e w1 ⟨rfl, hb1⟩
  go_wp2_with (go_at_call 83; refine (within_any _ _ _ _).mono ?_; rintro e w2 ⟨rfl, rfl⟩)
  go_ret
  exact ⟨rfl, (hb0 _).trans (hb1.mono (hb0 _).size)⟩

set_option maxHeartbeats 1000000 in
theorem pkey_any {w : World} {s : Nat} {c : Cf} {tv : Value} {lb gb : Nat} (h : HeadAt w s c tv lb gb) (hc : c.ok) (t ser tm : Int) (ht1 : -1 ≤ t) (ht2 : t < c.n) (htm : 0 ≤ tm ∧ tm ≤ 100000) :
    Calls Tryz.prog 106 #[.pointer (some ⟨s, 0, none⟩), .int .i64 t, .int .i64 ser, .int .i64 tm] w fun e w' => e = .returned (.agg #[.int .i64 t, .int .i64 ser, .int .i64 (tm / c.width t)]) ∧ Below w.heap.size w w' := by
  obtain ⟨a, cap, rfl⟩ := row_slice h.trow
  have hsl := h.lt
  have hb0 : ∀ o, Below w.heap.size w (w.alloc o) := fun o => (Below.refl _ _).alloc (Nat.le_refl _) _
  have hts := TS.of_owns h.trow
  obtain ⟨c0, c1, c2, c3, c4, c5, c6, -, -⟩ := h.cells
  have HWC := fun o => hide (lwindow_any c hc a cap t tm ht1 ht2 htm (w.alloc o) (hts.below (hb0 o)))
  have B1 := hide (rlast w (.cells #[.int .i64 0, .int .i64 0, .int .i64 0] 125))
  have BZ := hide (rsize w (.cells #[.int .i64 0, .int .i64 0, .int .i64 0] 125))
  clear h hts
  go_enter Tryz.func106, Tryz.ntmps106
  go_wp2_with fail
  refine (unhide (HWC _)).mono ?_
  rintro e w1 ⟨rfl, hb1⟩
  have e2 := (hb1.block w.heap.size (by rw [unhide BZ]; omega)).trans (unhide B1)
  have y0 : w1.cell? ⟨w.heap.size, 0, none⟩ = some (.int .i64 0) := by rw [rcell e2]; rfl
  have y1 : w1.cell? ⟨w.heap.size, 1, none⟩ = some (.int .i64 0) := by rw [rcell e2]; rfl
  have y2 : w1.cell? ⟨w.heap.size, 2, none⟩ = some (.int .i64 0) := by rw [rcell e2]; rfl
  have y3 := fun j => rfree e2 j
  have E2 := hide e2
  clear e2
  go_wp2_with fail
  have hf := set3 (unhide E2) (.int .i64 t) (.int .i64 ser) (.int .i64 (tm / c.width t))
  have hb3 : Below w.heap.size w1 (((w1.setCell ⟨w.heap.size, 0, none⟩ (.int .i64 t)).setCell ⟨w.heap.size, 1, none⟩ (.int .i64 ser)).setCell ⟨w.heap.size, 2, none⟩ (.int .i64 (tm / c.width t))) := (((Below.refl _ _).setCell (p := ⟨w.heap.size, 0, none⟩) (Nat.le_refl _) _).setCell (p := ⟨w.heap.size, 1, none⟩) (Nat.le_refl _) _).setCell (p := ⟨w.heap.size, 2, none⟩) (Nat.le_refl _) _
  refine bodyPost_ret (v := .agg #[.int .i64 t, .int .i64 ser, .int .i64 (tm / c.width t)]) (results_cell_row Tryz.results106 _ _ w.heap.size _ _ _ _ rfl hf Tryz.underlying125 rfl (by kernel_rfl)) rfl ?_
  exact ⟨rfl, (hb0 _).trans ((hb1.mono (hb0 _).size).trans hb3)⟩

/-- a look-up in the map of what is gone, which is empty. -/
theorem run_nogone {w : World} {gb : Nat} (h : w.heap[gb]? = some (.map #[] 0)) {s : Sg} (hs : s.wf) :
    (Instr.lookup 140 (.map (some gb)) (sgVal s) true).run Tryz.prog w = .ok (.tuple #[.agg #[], .bool false]) w := by
  obtain ⟨kl, hkl⟩ := sg_key hs
  have hz : (zeroValue 160).run Tryz.prog w = .ok (.agg #[]) w := by kernel_rfl
  rcases keyLaw.find w hkl [] (by simp) with ⟨h1, h2⟩ | ⟨j, e0, h1, h2, h3⟩
  · simp [Instr.lookup, run_underlying Tryz.underlying140, MapKept.run_getObj_map h, keyLaw.check w _ hkl, h1, hz, Result.andThen]
  · simp at h2
end Go.Proofs.YtgadceofpbfleaaGreat

/- Walks: Find, missing. -/
namespace Go.Proofs.YtgadceofpbfleaaGreat
open Go.RowKit Go.Maps Go.Shelf
set_option linter.unusedVariables false

theorem results_tmp_row {P : Program} {fn : Func} {p u : Tmp} {ty : TypeId} (h : fn.results = #[.tmp u, .cell p ty]) (tmps : Array Value) (w : World) (g : Nat) (t : TypeId) (cs : Array Value) (fr : Nat × Nat) (d : TypeDesc) (x : Value)
    (hx : tmps.getD u undef = x) (hp : tmps.getD p undef = .pointer (some ⟨g, 0, none⟩)) (hg : w.heap[g]? = some (.cells cs t fr))
    (hu : P.underlying ty = some d) (hd : (match d with | .struct _ | .array _ _ => true | _ => false) = true) (hi : (P.info? ty).map (·.size) = some cs.size) :
    (results fn tmps).run P w = .ok (.tuple #[x, .agg cs]) w := by
  have h1 : (results fn tmps).run P w = ((asAddr (tmps.getD p undef)).run P w).andThen fun a w₁ => ((loadVar ty a).run P w₁).andThen fun v w₂ => .ok (.tuple #[tmps.getD u undef, v]) w₂ := by
    simp only [results, h]
    simp [Sem.run_bind, Result.andThen]
  rw [h1, hp, hx]
  simp [asAddr, run_loadVar_row w g t ty cs fr d hg hu hd hi, Result.andThen]

theorem set4d {w : World} {g : Nat} {a b c d : Value} {t : TypeId} {fr : Nat × Nat} (h : w.heap[g]? = some (.cells #[a, b, c, d] t fr)) (x y z u : Value) : (((((w.setCell ⟨g, 0, none⟩ x).setCell ⟨g, 1, none⟩ y).setCell ⟨g, 2, none⟩ z).setCell ⟨g, 3, none⟩ u).drew).heap[g]? = some (.cells #[x, y, z, u] t fr) := by
  have := rset (i := 3) (rset (i := 2) (rset (i := 1) (rset (i := 0) h x) y) z) u
  exact this
theorem below4d {B : Nat} {w : World} {g : Nat} (h : B ≤ g) (x y z u : Value) : Below B w (((((w.setCell ⟨g, 0, none⟩ x).setCell ⟨g, 1, none⟩ y).setCell ⟨g, 2, none⟩ z).setCell ⟨g, 3, none⟩ u).drew) :=
  (((((Below.refl _ _).setCell (p := ⟨g, 0, none⟩) h _).setCell (p := ⟨g, 1, none⟩) h _).setCell (p := ⟨g, 2, none⟩) h _).setCell (p := ⟨g, 3, none⟩) h _).drew
theorem look_st (L : LV) (s : Sg) : lookV false (svVal ⟨0, noCl⟩) L s = svVal (stL L s) := by
  unfold lookV stL; cases getL L s <;> rfl

theorem lookNG {w X : World} {gb : Nat} (hg : w.heap[gb]? = some (.map #[] 0)) (hb : Below w.heap.size w X) {s : Sg} (hs : s.wf) : (Instr.lookup 140 (.map (some gb)) (.agg #[.int .i64 s.t, .int .i64 s.ser, .int .i64 s.win]) true).run Tryz.prog X = .ok (.tuple #[.agg #[], .bool false]) X :=
  run_nogone ((hb.block gb (lt_of_heap hg)).trans hg) hs
theorem lookLV {w X : World} {lb : Nat} {L : LV} {s : Sg} {v : SV} (hv : v = stL L s) (hl : LiveAt w lb L) (hb : Below w.heap.size w X) (hs : s.wf) : (Instr.lookup 139 (.map (some lb)) (.agg #[.int .i64 s.t, .int .i64 s.ser, .int .i64 s.win]) false).run Tryz.prog X = .ok (.agg #[.int .i64 v.st, .int .i64 v.cl.cnt, .int .i64 v.cl.sum, .int .i32 v.cl.mn, .int .i32 v.cl.mx]) X := by
  subst hv
  have := run_look false (hl.later hb) hs
  rw [look_st] at this
  exact this

set_option maxHeartbeats 4000000 in
theorem pfind_any {w : World} {b : Nat} {c : Cf} {tv : Value} {lb gb : Nat} {L : LV} (h : SetAt w b c tv lb gb L) (s : Sg) (hs : s.wf) :
    Calls Tryz.prog 64 #[.pointer (some ⟨b, 0, none⟩), .agg #[.int .i64 s.t, .int .i64 s.ser, .int .i64 s.win]] w fun e w' => e = .returned (.tuple #[.int .i64 (stL L s).st, clV (stL L s).cl]) ∧ Below w.heap.size w w' := by
  obtain ⟨v, hv⟩ : ∃ v, v = stL L s := ⟨_, rfl⟩
  rw [← hv]
  have HV := hide hv
  clear hv
  have hsl := h.lt
  obtain ⟨-, -, -, -, -, -, -, c7, c8⟩ := h.cells
  have H := hide h
  obtain ⟨y0, y1, hbw, yz⟩ := box2 w (.cells #[.int .i64 s.t, .int .i64 s.ser, .int .i64 s.win] 125) (.cells #[.int .i64 0, .int .i64 0, .int .i32 0, .int .i32 0] 91)
  have HS := hide hs
  clear h hs
  go_enter Tryz.func64, Tryz.ntmps64
  go_wp2_with fail
  generalize ((w.alloc (.cells #[.int .i64 s.t, .int .i64 s.ser, .int .i64 s.win] 125)).alloc (.cells #[.int .i64 0, .int .i64 0, .int .i32 0, .int .i32 0] 91)) = X at *
  have k0 : X.cell? ⟨w.heap.size, 0, none⟩ = some (.int .i64 s.t) := by rw [rcell y0]; rfl
  have k1 : X.cell? ⟨w.heap.size, 1, none⟩ = some (.int .i64 s.ser) := by rw [rcell y0]; rfl
  have k2 : X.cell? ⟨w.heap.size, 2, none⟩ = some (.int .i64 s.win) := by rw [rcell y0]; rfl
  have x7 := (hbw.cell (p := ⟨b, 7, none⟩) hsl).trans c7
  have x8 := (hbw.cell (p := ⟨b, 8, none⟩) hsl).trans c8
  have g0 := lookNG (X := X) (unhide H).gone hbw (unhide HS)
  have g1 := lookNG (X := X.drew) (unhide H).gone hbw.drew (unhide HS)
  have g2 := fun o => lookNG (X := X.alloc o) (unhide H).gone (hbw.alloc hbw.size o) (unhide HS)
  have g3 := fun o => lookNG (X := (X.alloc o).drew) (unhide H).gone (hbw.alloc hbw.size o).drew (unhide HS)
  have g4 := fun o => lookNG (X := X.drew.alloc o) (unhide H).gone (hbw.drew.alloc hbw.drew.size o) (unhide HS)
  have Y1 := hide y1
  have YZ := hide yz
  have HBW := hide hbw
  have Y0 := hide y0
  clear y0 y1 yz hbw c7 c8
  have hbl : b < X.heap.size := by have := unhide YZ; omega
  have hkz : w.heap.size < X.heap.size := by have := unhide YZ; omega
  have hkz1 : w.heap.size + 1 < X.heap.size := by have := unhide YZ; omega
  go_region
  have hbY : Below X.heap.size X ((X.alloc (.cells #[] 160)).drew) := ((Below.refl _ _).alloc (Nat.le_refl _) _).drew
  have hwY : Below w.heap.size w ((X.alloc (.cells #[] 160)).drew) := (unhide HBW).trans (hbY.mono (unhide HBW).size)
  generalize ((X.alloc (.cells #[] 160)).drew) = Y at *
  have m0 := (hbY.cell (p := ⟨w.heap.size, 0, none⟩) hkz).trans k0
  have m1 := (hbY.cell (p := ⟨w.heap.size, 1, none⟩) hkz).trans k1
  have m2 := (hbY.cell (p := ⟨w.heap.size, 2, none⟩) hkz).trans k2
  have y7 := (hbY.cell (p := ⟨b, 7, none⟩) hbl).trans x7
  have e1 := (hbY.block (w.heap.size + 1) hkz1).trans (unhide Y1)
  clear g0 g1 g2 g3 g4 k0 k1 k2 x7 x8
  have hYz := hbY.size
  have hbl : b < Y.heap.size := by omega
  have hkz : w.heap.size < Y.heap.size := by omega
  have hkz1 : w.heap.size + 1 < Y.heap.size := by omega
  have g0 := lookLV (hv := unhide HV) (X := Y) (unhide H).live hwY (unhide HS)
  have g1 := lookLV (hv := unhide HV) (X := Y.drew) (unhide H).live hwY.drew (unhide HS)
  have g2 := fun o => lookLV (hv := unhide HV) (X := Y.alloc o) (unhide H).live (hwY.alloc hwY.size o) (unhide HS)
  have g3 := fun o => lookLV (hv := unhide HV) (X := (Y.alloc o).drew) (unhide H).live (hwY.alloc hwY.size o).drew (unhide HS)
  have g4 := fun o => lookLV (hv := unhide HV) (X := Y.drew.alloc o) (unhide H).live (hwY.drew.alloc hwY.drew.size o) (unhide HS)
  have HWY := hide hwY
  have E1 := hide e1
  clear hbY hwY e1
  go_wp2_with fail
  go_region
  have hbZ : Below Y.heap.size Y ((Y.alloc (.cells #[.int .i64 v.st, .int .i64 v.cl.cnt, .int .i64 v.cl.sum, .int .i32 v.cl.mn, .int .i32 v.cl.mx] 145)).drew) := ((Below.refl _ _).alloc (Nat.le_refl _) _).drew
  have hZl : ((Y.alloc (.cells #[.int .i64 v.st, .int .i64 v.cl.cnt, .int .i64 v.cl.sum, .int .i32 v.cl.mn, .int .i32 v.cl.mx] 145)).drew).heap[Y.heap.size]? = some (.cells #[.int .i64 v.st, .int .i64 v.cl.cnt, .int .i64 v.cl.sum, .int .i32 v.cl.mn, .int .i32 v.cl.mx] 145 (0, 0)) := rlast _ _
  generalize ((Y.alloc (.cells #[.int .i64 v.st, .int .i64 v.cl.cnt, .int .i64 v.cl.sum, .int .i32 v.cl.mn, .int .i32 v.cl.mx] 145)).drew) = Z at *
  have z0 : Z.cell? ⟨Y.heap.size, 0, none⟩ = some (.int .i64 v.st) := by rw [rcell hZl]; rfl
  have z1 : Z.cell? ⟨Y.heap.size, 1, none⟩ = some (.int .i64 v.cl.cnt) := by rw [rcell hZl]; rfl
  have z2 : Z.cell? ⟨Y.heap.size, 2, none⟩ = some (.int .i64 v.cl.sum) := by rw [rcell hZl]; rfl
  have z3 : Z.cell? ⟨Y.heap.size, 3, none⟩ = some (.int .i32 v.cl.mn) := by rw [rcell hZl]; rfl
  have z4 : Z.cell? ⟨Y.heap.size, 4, none⟩ = some (.int .i32 v.cl.mx) := by rw [rcell hZl]; rfl
  have ez := (hbZ.block (w.heap.size + 1) hkz1).trans (unhide E1)
  have r0 : Z.cell? ⟨w.heap.size + 1, 0, none⟩ = some (.int .i64 0) := by rw [rcell ez]; rfl
  have r1 : Z.cell? ⟨w.heap.size + 1, 1, none⟩ = some (.int .i64 0) := by rw [rcell ez]; rfl
  have r2 : Z.cell? ⟨w.heap.size + 1, 2, none⟩ = some (.int .i32 0) := by rw [rcell ez]; rfl
  have r3 : Z.cell? ⟨w.heap.size + 1, 3, none⟩ = some (.int .i32 0) := by rw [rcell ez]; rfl
  have rf := fun j => rfree ez j
  have hne : (w.heap.size + 1 == Y.heap.size) = false := by simp; omega
  have hne2 : (Y.heap.size == w.heap.size + 1) = false := by simp; omega
  have hne3 : ¬ w.heap.size + 1 = Y.heap.size := by omega
  have hne4 : ¬ Y.heap.size = w.heap.size + 1 := by omega
  have EZ := hide ez
  have HBZ := hide hbZ
  clear g0 g1 g2 g3 g4 m0 m1 m2 y7 hZl ez hbZ
  go_wp2_with fail
  go_region
  go_wp2_with fail
  have hf := set4d (unhide EZ) (.int .i64 v.cl.cnt) (.int .i64 v.cl.sum) (.int .i32 v.cl.mn) (.int .i32 v.cl.mx)
  refine bodyPost_ret (v := .tuple #[.int .i64 v.st, .agg #[.int .i64 v.cl.cnt, .int .i64 v.cl.sum, .int .i32 v.cl.mn, .int .i32 v.cl.mx]]) (results_tmp_row Tryz.results64 _ _ (w.heap.size + 1) _ _ _ _ _ rfl rfl hf Tryz.underlying91 rfl (by kernel_rfl)) rfl ?_
  exact ⟨rfl, ((unhide HWY).trans ((unhide HBZ).mono (unhide HWY).size)).trans (below4d (Nat.le_succ _) _ _ _ _)⟩

set_option maxHeartbeats 1000000 in
theorem pmissing_any {w : World} {b : Nat} {c : Cf} {tv : Value} {lb gb : Nat} {L : LV} (h : SetAt w b c tv lb gb L) (s : Sg) (hs : s.wf) :
    Calls Tryz.prog 105 #[.pointer (some ⟨b, 0, none⟩), .agg #[.int .i64 s.t, .int .i64 s.ser, .int .i64 s.win]] w fun e w' => e = .returned (.bool ((stL L s).st == 0)) ∧ Below w.heap.size w w' := by
  have hb0 : ∀ o, Below w.heap.size w (w.alloc o) := fun o => (Below.refl _ _).alloc (Nat.le_refl _) _
  have HF := fun o => hide (pfind_any (h.later (hb0 o)) s hs)
  unfold clV at HF
  clear h hs
  generalize stL L s = v at *
  go_enter Tryz.func105, Tryz.ntmps105
  go_wp2_with fail
  refine (unhide (HF _)).mono ?_
  rintro e w1 ⟨rfl, hb1⟩
  go_wp2_with fail
  go_ret
  exact ⟨rfl, ((hb0 _).trans (hb1.mono (hb0 _).size)).alloc (Nat.le_trans (hb0 _).size hb1.size) _⟩
end Go.Proofs.YtgadceofpbfleaaGreat
