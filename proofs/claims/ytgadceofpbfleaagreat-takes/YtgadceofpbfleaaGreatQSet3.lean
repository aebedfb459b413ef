import Derived.Test.YtgadceofpbfleaaGreatQSet0
import Derived.Test.YtgadceofpbfleaaGreatQSeq4

/- The segments of all tiers that a number is in: cellsOf, its iterator; Cost. -/
namespace Go.Proofs.YtgadceofpbfleaaGreat
open Go.RowKit Go.Maps Go.Shelf
set_option linter.unusedVariables false
attribute [local go_sem] Oper.semAt_some

def tierSeg (c : Cf) (ser tm : Int) (k : Nat) : Sg := ⟨(k : Int), ser, tm / c.width (k : Int)⟩
def tierSegs (c : Cf) (ser tm : Int) (k : Nat) : List Sg := (List.range k).map (tierSeg c ser tm)
theorem tierSegs_succ (c : Cf) (ser tm : Int) (k : Nat) : tierSegs c ser tm (k + 1) = tierSegs c ser tm k ++ [tierSeg c ser tm k] := by simp [tierSegs, List.range_succ]
theorem tierSegs_len (c : Cf) (ser tm : Int) (k : Nat) : (tierSegs c ser tm k).length = k := by simp [tierSegs]

theorem tierSeg_wf {c : Cf} (hc : c.ok) {ser tm : Int} (hser : 0 ≤ ser ∧ ser < 4) (htm : 0 ≤ tm ∧ tm ≤ 100000) {k : Nat} (hk : k < c.n) : (tierSeg c ser tm k).wf := by
  obtain ⟨hw1, hw2⟩ := hc.width (t := (k : Int)) (by omega) (by omega)
  have hn := hc.n4
  have hd : 0 ≤ tm / c.width (k : Int) := Int.ediv_nonneg htm.1 (by omega)
  have hd2 : tm / c.width (k : Int) ≤ tm := Int.ediv_le_self _ htm.1
  refine ⟨?_, ?_, ?_⟩ <;> unfold i64B <;> simp only [tierSeg] <;> omega

/-- what cellsOf's closure reads. -/
structure Reads (W : World) (q : Nat) (s : Nat) (c : Cf) (tv : Value) (lb gb : Nat) (ser tm : Int) : Prop where
  b0 : W.heap[q]? = some (.cells #[.pointer (some ⟨s, 0, none⟩)] 105 (0, 0))
  b1 : W.heap[q + 1]? = some (.cells #[.int .i64 ser] 3 (0, 0))
  b2 : W.heap[q + 2]? = some (.cells #[.int .i64 tm] 3 (0, 0))
  hd : HeadAt W s c tv lb gb
theorem Reads.later {W W' : World} {q : Nat} {s : Nat} {c : Cf} {tv : Value} {lb gb : Nat} {ser tm : Int} (h : Reads W q s c tv lb gb ser tm) (hb : Below W.heap.size W W') : Reads W' q s c tv lb gb ser tm :=
  ⟨(hb.block _ (lt_of_heap h.b0)).trans h.b0, (hb.block _ (lt_of_heap h.b1)).trans h.b1, (hb.block _ (lt_of_heap h.b2)).trans h.b2, h.hd.later hb⟩
theorem grown_below {W W' : World} (h : Below W.heap.size W W') : W.grownBy W' none := ⟨h.os, h.tape, h.output, h.size, fun k hk _ => h.block k hk⟩

set_option maxRecDepth 100000 in
set_option maxHeartbeats 2000000 in
theorem cells1_any (n : Nat) (hn : 1 ≤ n) (l q s : Nat) (c : Cf) (hc : c.ok) (tv : Value) (lb gb : Nat) (ser tm : Int) (hser : 0 ≤ ser ∧ ser < 4) (htm : 0 ≤ tm ∧ tm ≤ 100000) (Kp : World → World → Prop) (hKr : ∀ A B, Kp A B → Reads A q s c tv lb gb ser tm → Reads B q s c tv lb gb ser tm) (J Jx : List WSg → World → Prop)
    (hY : ∀ pre x W, J pre W → pre.length < c.n → YieldAt Fence.wide (n - 1) Tryz.prog l #[.agg #[.int .i64 x.1.t, .int .i64 x.1.ser, .int .i64 x.1.win]] W fun e W' =>
      (e = .returned (.bool true) ∧ J (pre ++ [x]) W' ∧ Kp W W') ∨ (e = .returned (.bool false) ∧ Jx (pre ++ [x]) W'))
    (W : World) (hJ : AbidesFrom W.heap.size J) (hR : Reads W q s c tv lb gb ser tm) (h0 : J [] W) :
    CallsIn Fence.wide n Tryz.prog 114 #[.func (.yield l) #[] #[], .pointer (some ⟨q, 0, none⟩), .pointer (some ⟨q + 1, 0, none⟩), .pointer (some ⟨q + 2, 0, none⟩)] W fun e W' => (∃ v, e = .returned v) ∧
      ((∃ xs, xs = (tierSegs c ser tm c.n).map wSeg ∧ J xs W') ∨ (∃ pre, True ∧ Jx pre W')) := by
  obtain ⟨a, cap, rfl⟩ := row_slice hR.hd.trow
  have HR := hide hR
  have HT := hide (ltiers_any c a cap W)
  obtain ⟨c0, c1, c2, c3, c4, c5, c6, -, -⟩ := hR.hd.cells
  have hsl := hR.hd.lt
  have q0 : W.cell? ⟨q, 0, none⟩ = some (.pointer (some ⟨s, 0, none⟩)) := by rw [rcell hR.b0]; rfl
  have hn4 := hc.n4
  have HJ := hide hJ
  have HY := hide hY
  have HKR := hide hKr
  clear hR hJ hY hKr
  refine callsIn_of_wp Tryz.func114 rfl trivial ?_ rfl
  simp only [Tryz.ntmps114, List.size_toArray, List.length_cons, List.length_nil, Nat.reduceAdd, Nat.reduceSub, Array.replicate_succ, Array.replicate_zero, List.push_toArray, List.append_toArray, List.nil_append, List.cons_append]
  gi_wp2_with (first | (refine ⟨trivial, ?_⟩; gi_at_call 95; refine (callsIn_wide.2 (unhide HT)).mono ?_; rintro e w1 ⟨rfl, hb1⟩) | gi_in)
  clear c0 c1 c2 c3 c4 c5 c6 q0 hsl
  gi_loopw [11] (fun i wr => ∃ k : Nat, k ≤ c.n ∧ i = .int .i64 k ∧ J ((tierSegs c ser tm k).map wSeg) wr ∧ Reads wr q s c (.slice a c.n cap) lb gb ser tm)
    (fun i _ => c.n - (intOf i).toNat)
  case atStart => exact ⟨0, Nat.zero_le _, rfl, unhide HJ _ _ _ none h0 (grown_below hb1) (fun r e => by cases e), (unhide HR).later hb1⟩
  case round =>
    obtain ⟨k, hk, rfl, hJs, hRr⟩ := hrel
    by_cases hlt : k < c.n
    · have q0 : wr.cell? ⟨q, 0, none⟩ = some (.pointer (some ⟨s, 0, none⟩)) := by rw [rcell hRr.b0]; rfl
      have q1 : wr.cell? ⟨q + 1, 0, none⟩ = some (.int .i64 ser) := by rw [rcell hRr.b1]; rfl
      have q2 : wr.cell? ⟨q + 2, 0, none⟩ = some (.int .i64 tm) := by rw [rcell hRr.b2]; rfl
      have hlt' : (k : Int) < c.n := by omega
      have HK := hide (pkey_any hRr.hd hc (k : Int) ser tm (by omega) hlt' htm)
      have HRR := hide hRr
      have hwk := tierSeg_wf hc hser htm hlt
      clear hRr
      gi_wp2_with (first | (refine ⟨trivial, ?_⟩; gi_at_call 106; refine (callsIn_wide.2 (unhide HK)).mono ?_; rintro e w2 ⟨rfl, hb2⟩; have hJ2 := unhide HJ _ _ _ none hJs (grown_below hb2) (fun r e => by cases e); obtain ⟨fn, tmps, assign, body, hy, hR3⟩ := unhide HY _ (wSeg (tierSeg c ser tm k)) w2 hJ2 (by rw [List.length_map, tierSegs_len]; exact hlt); rw [wSeg_val hwk] at hy; dsimp only [tierSeg] at hy) | gi_in)
      refine hR3.mono ?_
      rintro e W3 (⟨rfl, hJ3, hk3⟩ | ⟨rfl, hJx3⟩)
      · have HR3 := hide (unhide HKR _ _ hk3 ((unhide HRR).later hb2))
        gi_wp2
        go_roundw
        case rel => exact ⟨k + 1, by omega, by simp, by rw [tierSegs_succ, List.map_append, List.map_singleton]; exact hJ3, unhide HR3⟩
        case measure => simp [intOf]; omega
      · gi_wp2
        refine bodyPost_ret (results_none rfl _ _ _) rfl ?_
        exact ⟨⟨_, rfl⟩, .inr ⟨_, trivial, hJx3⟩⟩
    · obtain rfl : k = c.n := by omega
      gi_wp2
      go_end0
      exact ⟨⟨_, rfl⟩, .inl ⟨_, rfl, hJs⟩⟩

theorem cells_enters : ∀ args w, (callFunc 114 args).run Tryz.prog w = .ok (.enter 114 args) w := enters_of Tryz.func114 (by kernel_rfl) rfl

theorem cells_stops (n : Nat) (hn : 1 ≤ n) (q s : Nat) (c : Cf) (hc : c.ok) (tv : Value) (lb gb : Nat) (ser tm : Int) (hser : 0 ≤ ser ∧ ser < 4) (htm : 0 ≤ tm ∧ tm ≤ 100000) (Kp : World → World → Prop) (hKr : ∀ A B, Kp A B → Reads A q s c tv lb gb ser tm → Reads B q s c tv lb gb ser tm) (w : World) (hR : Reads w q s c tv lb gb ser tm) :
    SeqStopsK Fence.wide n Tryz.prog 114 #[.pointer (some ⟨q, 0, none⟩), .pointer (some ⟨q + 1, 0, none⟩), .pointer (some ⟨q + 2, 0, none⟩)] (fun x : WSg => #[.agg #[.int .i64 x.1.t, .int .i64 x.1.ser, .int .i64 x.1.win]]) Kp (fun xs => xs = (tierSegs c ser tm c.n).map wSeg) (fun _ => True) c.n w :=
  fun l J Jx W hW hJ _ hY h0 => cells1_any n hn l q s c hc tv lb gb ser tm hser htm Kp hKr J Jx hY W hJ (hR.later hW) h0

theorem box3p (w : World) (o1 o2 o3 : Obj) : (((w.alloc o1).alloc o2).alloc o3).heap[w.heap.size]? = some o1 ∧ (((w.alloc o1).alloc o2).alloc o3).heap[w.heap.size + 1]? = some o2 ∧ (((w.alloc o1).alloc o2).alloc o3).heap[w.heap.size + 2]? = some o3 ∧ Below w.heap.size w (((w.alloc o1).alloc o2).alloc o3) ∧ (((w.alloc o1).alloc o2).alloc o3).heap.size = w.heap.size + 3 := by
  obtain ⟨h1, h2, h3, h4⟩ := box2 w o1 o2
  refine ⟨(Below.heap_alloc _ _ _ (by rw [h4]; omega)).trans h1, (Below.heap_alloc _ _ _ (by rw [h4]; omega)).trans h2, ?_, h3.alloc (by rw [h4]; omega) _, by simp⟩
  have := rlast ((w.alloc o1).alloc o2) o3
  rw [h4] at this; exact this

def cellsW (w : World) (s : Nat) (ser tm : Int) : World := ((w.alloc (.cells #[.pointer (some ⟨s, 0, none⟩)] 105)).alloc (.cells #[.int .i64 ser] 3)).alloc (.cells #[.int .i64 tm] 3)
theorem cells_reads {w : World} {s : Nat} {c : Cf} {tv : Value} {lb gb : Nat} (h : HeadAt w s c tv lb gb) (ser tm : Int) : Reads (cellsW w s ser tm) w.heap.size s c tv lb gb ser tm ∧ Below w.heap.size w (cellsW w s ser tm) ∧ (cellsW w s ser tm).heap.size = w.heap.size + 3 := by
  obtain ⟨h1, h2, h3, h4, h5⟩ := box3p w (.cells #[.pointer (some ⟨s, 0, none⟩)] 105) (.cells #[.int .i64 ser] 3) (.cells #[.int .i64 tm] 3)
  exact ⟨⟨h1, h2, h3, h.later h4⟩, h4, h5⟩

theorem cellsOf_any (s : Nat) (ser tm : Int) (w : World) :
    Calls Tryz.prog 104 #[.pointer (some ⟨s, 0, none⟩), .int .i64 ser, .int .i64 tm] w fun e w' => e = .returned (.func (.func 114) #[] #[.pointer (some ⟨w.heap.size, 0, none⟩), .pointer (some ⟨w.heap.size + 1, 0, none⟩), .pointer (some ⟨w.heap.size + 2, 0, none⟩)]) ∧ w' = cellsW w s ser tm := by
  go_enter Tryz.func104, Tryz.ntmps104
  go_wp2_with fail
  go_ret
  exact ⟨rfl, rfl⟩

/-- 1 where a segment is not there. -/
def missI (L : LV) (s : Sg) : Int := if (stL L s).st = 0 then 1 else 0

set_option maxHeartbeats 1000000 in
theorem kcount1_any (x : WSg) (hb s : Nat) {c : Cf} {tv : Value} {lb gb : Nat} {L : LV} (w : World) (h : SetAt w s c tv lb gb L) (hc : w.cell? ⟨hb, 0, none⟩ = some (.func (.func 105) #[.pointer (some ⟨s, 0, none⟩)] #[])) (hl : hb < w.heap.size) : Calls Tryz.prog 113 #[.agg #[.int .i64 x.1.t, .int .i64 x.1.ser, .int .i64 x.1.win], .pointer (some ⟨hb, 0, none⟩)] w fun e w' => e = .returned (.int .i64 (missI L x.1)) ∧ Below w.heap.size w w' := by
  have hb0 : ∀ o, Below w.heap.size w (w.alloc o) := fun o => (Below.refl _ _).alloc (Nat.le_refl _) _
  have HC := fun o => hide (pmissing_any (h.later (hb0 o)) x.1 x.2)
  clear h
  obtain ⟨⟨t, ser, win⟩, hx⟩ := x
  dsimp only at HC ⊢
  by_cases h : (stL L ⟨t, ser, win⟩).st = 0
  · have he : ((stL L ⟨t, ser, win⟩).st == 0) = true := by simp [h]
    rw [show missI L ⟨t, ser, win⟩ = 1 from by simp [missI, h]]
    rw [he] at HC
    clear h he
    go_enter Tryz.func113, Tryz.ntmps113
    go_wp2_with fail
    refine (unhide (HC _)).mono ?_
    rintro e w1 ⟨rfl, hb1⟩
    go_wp2_with fail
    go_ret
    exact ⟨rfl, (hb0 _).trans (hb1.mono (hb0 _).size)⟩
  · have he : ((stL L ⟨t, ser, win⟩).st == 0) = false := by simp [h]
    rw [show missI L ⟨t, ser, win⟩ = 0 from by simp [missI, h]]
    rw [he] at HC
    clear h he
    go_enter Tryz.func113, Tryz.ntmps113
    go_wp2_with fail
    refine (unhide (HC _)).mono ?_
    rintro e w1 ⟨rfl, hb1⟩
    go_wp2_with fail
    go_ret
    exact ⟨rfl, (hb0 _).trans (hb1.mono (hb0 _).size)⟩

theorem missL_sum {c : Cf} (hc : c.ok) {L : LV} {ser tm val : Int} (hser : 0 ≤ ser ∧ ser < 4) (htm : 0 ≤ tm ∧ tm ≤ 100000) (hst : ∀ p ∈ L, p.2.st ≠ 0) : ∀ k, k ≤ c.n → sumI (((tierSegs c ser tm k).map wSeg).map (fun x => missI L x.1)) = missL c L ⟨ser, tm, val⟩ k
  | 0, _ => by simp [tierSegs, sumI, missL]
  | k + 1, hk => by
    rw [tierSegs_succ, List.map_append, List.map_append, sumI_append, missL_sum hc (val := val) hser htm hst k (by omega)]
    simp only [List.map_cons, List.map_nil, sumI, missL]
    rw [wSeg_val (tierSeg_wf hc hser htm (by omega))]
    have e : segOf c (k : Int) ⟨ser, tm, val⟩ = tierSeg c ser tm k := rfl
    rw [e]
    by_cases hm : tierSeg c ser tm k ∈ keysL L
    · obtain ⟨v, hv, hvm⟩ := getL_of hm
      have h1 : ¬ (stL L (tierSeg c ser tm k)).st = 0 := by unfold stL; rw [hv]; exact hst _ hvm
      simp [missI, h1, hm]
    · have h1 : (stL L (tierSeg c ser tm k)).st = 0 := by unfold stL; rw [getL_none.2 hm]; rfl
      simp [missI, h1, hm]

theorem kept_belowN {N : Nat} {A B : World} (h : Below N A B) (hs : A.heap.size ≤ B.heap.size) : Kept (fun k => N ≤ k) A B := ⟨h.os, h.tape, h.output, hs, fun k _ hn => h.block k (by omega)⟩
theorem Reads.belowN {N : Nat} {A B : World} {q s : Nat} {c : Cf} {tv : Value} {lb gb : Nat} {ser tm : Int} (h : Reads A q s c tv lb gb ser tm) (hb : Below N A B) (hz : A.heap.size ≤ B.heap.size) (hq : q + 2 < N) (hs : s < N) (ht : ∀ k, tv.ownBlock = some k → k < N) : Reads B q s c tv lb gb ser tm :=
  ⟨(hb.block _ (by omega)).trans h.b0, (hb.block _ (by omega)).trans h.b1, (hb.block _ hq).trans h.b2, h.hd.kept (kept_belowN hb hz) (by omega) (fun k hk => by have := ht k hk; omega)⟩
theorem own_lt {w : World} {base : Nat} {e : TypeId} {size : Nat} {v : Value} {n : Nat} {xs : List Value} (h : w.ownsRow base e size v n xs) : ∀ k, v.ownBlock = some k → k < w.heap.size := fun k hk => by
  obtain ⟨cur, hc⟩ := owns_type h hk; exact lt_of_heap hc

set_option maxHeartbeats 2000000 in
theorem kcount_any {X : World} {q s : Nat} {c : Cf} {tv : Value} {lb gb : Nat} {L : LV} (h : SetAt X s c tv lb gb L) (hc : c.ok) (ser tm : Int) (hR : Reads X q s c tv lb gb ser tm) (hser : 0 ≤ ser ∧ ser < 4) (htm : 0 ≤ tm ∧ tm ≤ 100000) (V : Int) (hV : wsum (((tierSegs c ser tm c.n).map wSeg).map (fun x => missI L x.1)) = V) :
    Calls Tryz.prog 103 #[.func (.func 114) #[] #[.pointer (some ⟨q, 0, none⟩), .pointer (some ⟨q + 1, 0, none⟩), .pointer (some ⟨q + 2, 0, none⟩)], .func (.func 105) #[.pointer (some ⟨s, 0, none⟩)] #[]] X fun e w' => e = .returned (.int .i64 V) ∧ Below X.heap.size X w' := by
  have HV := hide hV
  clear hV
  have hb1 : ∀ o, Below X.heap.size X (X.alloc o) := fun o => (Below.refl _ _).alloc (Nat.le_refl _) _
  have hq := lt_of_heap hR.b2
  have hsl := h.lt
  have HS := hide (sum_keys X.heap.size 114 #[.pointer (some ⟨q, 0, none⟩), .pointer (some ⟨q + 1, 0, none⟩), .pointer (some ⟨q + 2, 0, none⟩)] cells_enters (fun x => missI L x.1) (X.alloc (.cells #[.func (.func 105) #[.pointer (some ⟨s, 0, none⟩)] #[]] 168)) (keeping_below _)
    (fun x W hW => kcount1_any x X.heap.size s W (h.later ((hb1 _).trans (hW.mono (hb1 _).size))) ((hW.cell (p := ⟨X.heap.size, 0, none⟩) (by simp)).trans (by rw [rcell (rlast _ _)]; rfl)) (by have := hW.size; simp at this; omega))
    (cells_stops 6 (by omega) q s c hc tv lb gb ser tm hser htm _ (fun A B hAB hRA => hRA.belowN hAB hAB.size (by simp; omega) (by simp; omega) (fun k hk => by have := own_lt h.trow k hk; simp; omega)) _ (hR.later (hb1 _))))
  go_enter Tryz.func103, Tryz.ntmps103
  go_wp2_with fail
  refine (unhide HS).mono ?_
  rintro e w1 ⟨xs, rfl, he, hb2⟩
  rw [unhide HV] at he
  subst he
  go_wp2_with fail
  go_ret
  exact ⟨rfl, (hb1 _).trans (hb2.mono (hb1 _).size)⟩

set_option maxHeartbeats 2000000 in
theorem pcost_any {w : World} {s : Nat} {c : Cf} {tv : Value} {lb gb : Nat} {L : LV} (h : SetAt w s c tv lb gb L) (hc : c.ok) (ser tm val : Int) (hser : 0 ≤ ser ∧ ser < 4) (htm : 0 ≤ tm ∧ tm ≤ 100000) (hst : ∀ p ∈ L, p.2.st ≠ 0) :
    Calls Tryz.prog 87 #[.pointer (some ⟨s, 0, none⟩), .int .i64 ser, .int .i64 tm] w fun e w' => e = .returned (.int .i64 (1 + 2 * missL c L ⟨ser, tm, val⟩ c.n)) ∧ Below w.heap.size w w' := by
  have hmb := missL_bounds c L ⟨ser, tm, val⟩ c.n
  have hn4 := hc.n4
  have hE := missL_sum hc (val := val) hser htm hst c.n (Nat.le_refl _)
  generalize missL c L ⟨ser, tm, val⟩ c.n = M at *
  obtain ⟨hm1, hm2⟩ := hmb
  have hW := wsum_small (l := ((tierSegs c ser tm c.n).map wSeg).map (fun x => missI L x.1)) (by rw [hE]; omega)
  rw [hE] at hW
  obtain ⟨hR, hbX, hXz⟩ := cells_reads h.hd ser tm
  have HCO := hide (cellsOf_any s ser tm w)
  have HKC := hide (kcount_any (h.later hbX) hc ser tm hR hser htm M hW)
  have HBX := hide hbX
  clear hE hW hR hbX h hst
  go_enter Tryz.func87, Tryz.ntmps87
  go_wp2_with fail
  refine (unhide HCO).mono ?_
  rintro e w1 ⟨rfl, rfl⟩
  go_wp2_with fail
  refine (unhide HKC).mono ?_
  rintro e w1 ⟨rfl, hb1⟩
  go_wp2_with fail
  go_ret
  exact ⟨rfl, (unhide HBX).trans (hb1.mono (unhide HBX).size)⟩
end Go.Proofs.YtgadceofpbfleaaGreat
