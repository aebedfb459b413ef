import Derived.Test.YtpbimdkclnekeaaGreatTHng0
import Derived.Test.YtpbimdkclnekeaaGreatTSeq5

namespace Go.Proofs.YtpbimdkclnekeaaGreat
open Value (int)
open IntKind (i64)
open Go.RowKit Go.Maps Go.Shelf
set_option linter.unusedVariables false
theorem meth_Roll_Kind (s : Sg) (w : World) : (method 419 175 (.agg #[int i64 s.t, int i64 s.ser, int i64 s.win]) "Kind").run Tryz.prog w = .ok (250, .agg #[int i64 s.t, int i64 s.ser, int i64 s.win]) w := by kernel_rfl
theorem meth_Roll_Segment (s : Sg) (w : World) : (method 419 175 (.agg #[int i64 s.t, int i64 s.ser, int i64 s.win]) "Segment").run Tryz.prog w = .ok (251, .agg #[int i64 s.t, int i64 s.ser, int i64 s.win]) w := by kernel_rfl
theorem kind_Roll (s : Sg) (w : World) : Calls Tryz.prog 250 #[.agg #[int i64 s.t, int i64 s.ser, int i64 s.win]] w fun e w' => e = .returned (int i64 1) /\ Below w.heap.size w w' := by
 go_enter Tryz.func250, Tryz.ntmps250
 go_wp2_with fail
 go_ret
 exact ⟨rfl, (Below.refl _ _).alloc (Nat.le_refl _) _⟩
set_option maxHeartbeats 1000000 in
theorem segm_Roll (s : Sg) (w : World) : Calls Tryz.prog 251 #[.agg #[int i64 s.t, int i64 s.ser, int i64 s.win]] w fun e w' => e = .returned (.agg #[int i64 s.t, int i64 s.ser, int i64 s.win]) /\ Below w.heap.size w w' := by
 obtain ⟨y0, y1, hbw, yz⟩ := box2 w (.cells #[int i64 s.t, int i64 s.ser, int i64 s.win] 175) (.cells #[int i64 s.t, int i64 s.ser, int i64 s.win] 137)
 go_enter Tryz.func251, Tryz.ntmps251
 go_wp2_with fail
 refine bodyPost_ret (v := .agg #[int i64 s.t, int i64 s.ser, int i64 s.win]) (results_cell_row Tryz.results251 _ _ (w.heap.size + 1) _ _ _ _ rfl y1 Tryz.underlying137 rfl (by kernel_rfl)) rfl ?_
 exact ⟨rfl, hbw⟩
set_option maxRecDepth 20000 in
set_option maxHeartbeats 2000000 in
theorem keyOf_Roll (s : Sg) (w : World) : Calls Tryz.prog 87 #[.iface 175 (.agg #[int i64 s.t, int i64 s.ser, int i64 s.win])] w fun e w' => e = .returned (.agg #[int i64 1, int i64 s.t, int i64 s.ser, int i64 s.win]) /\ Below w.heap.size w w' := by
 have b0 := zap w (.cells #[int i64 0, int i64 0, int i64 0, int i64 0] 147)
 have bz := zbd w (.cells #[int i64 0, int i64 0, int i64 0, int i64 0] 147)
 have hb0 : Below w.heap.size w (w.alloc (.cells #[int i64 0, int i64 0, int i64 0, int i64 0] 147)) := (Below.refl _ _).alloc (Nat.le_refl _) _
 have HK := fun W => zab (kind_Roll s W)
 have HS := fun W => zab (segm_Roll s W)
 have B0 := zab b0
 have BZ := zab bz
 have HB0 := zab hb0
 clear b0 bz hb0
 have hm1 := meth_Roll_Kind s
 have hm2 := meth_Roll_Segment s
 go_enter Tryz.func87, Tryz.ntmps87
 go_wp2_with (first
  | (go_at_call 250; refine (ud (HK _)).mono ?_; rintro e w1 ⟨rfl, hb1⟩; have HB1 := zab hb1; clear hb1)
  | (go_at_call 251; refine (ud (HS _)).mono ?_; rintro e w2 ⟨rfl, hb2⟩; have hz0 : w.heap.size < (w.alloc (.cells #[int i64 0, int i64 0, int i64 0, int i64 0] 147)).heap.size := (by rw [ud BZ]; omega); have e2 := (hb2.block w.heap.size (Nat.lt_of_lt_of_le hz0 (ud HB1).size)).trans (((ud HB1).block w.heap.size hz0).trans (ud B0)); have y0 : w2.cell? ⟨w.heap.size, 0, none⟩ = some (int i64 0) := (by rw [zac e2]; rfl); have y1 : w2.cell? ⟨w.heap.size, 1, none⟩ = some (int i64 0) := (by rw [zac e2]; rfl); have y2 : w2.cell? ⟨w.heap.size, 2, none⟩ = some (int i64 0) := (by rw [zac e2]; rfl); have y3 : w2.cell? ⟨w.heap.size, 3, none⟩ = some (int i64 0) := (by rw [zac e2]; rfl); have yf := fun j => zaz e2 j; have hl2 := zaa e2; have E2 := zab e2; have HB2 := zab hb2; clear hb2 e2 hz0))
 have hf := zbz (i := 3) (zbz (i := 2) (zbz (i := 1) (zbz (i := 0) (ud E2) (int i64 1)) (int i64 s.t)) (int i64 s.ser)) (int i64 s.win)
 refine bodyPost_ret (v := .agg #[int i64 1, int i64 s.t, int i64 s.ser, int i64 s.win]) (results_cell_row Tryz.results87 _ _ w.heap.size _ _ _ _ rfl hf Tryz.underlying147 rfl (by kernel_rfl)) rfl ?_
 have hb := ud HB0
 have hb1 := ud HB1
 have hb2 := ud HB2
 exact ⟨rfl, (hb.trans (hb1.mono hb.size)).trans ((hb2.mono (Nat.le_trans hb.size hb1.size)).trans (below4 (Nat.le_refl _) _ _ _ _))⟩
theorem meth_Reclaim_Kind (s : Sg) (w : World) : (method 419 177 (.agg #[int i64 s.t, int i64 s.ser, int i64 s.win]) "Kind").run Tryz.prog w = .ok (253, .agg #[int i64 s.t, int i64 s.ser, int i64 s.win]) w := by kernel_rfl
theorem meth_Reclaim_Segment (s : Sg) (w : World) : (method 419 177 (.agg #[int i64 s.t, int i64 s.ser, int i64 s.win]) "Segment").run Tryz.prog w = .ok (254, .agg #[int i64 s.t, int i64 s.ser, int i64 s.win]) w := by kernel_rfl
theorem kind_Reclaim (s : Sg) (w : World) : Calls Tryz.prog 253 #[.agg #[int i64 s.t, int i64 s.ser, int i64 s.win]] w fun e w' => e = .returned (int i64 2) /\ Below w.heap.size w w' := by
 go_enter Tryz.func253, Tryz.ntmps253
 go_wp2_with fail
 go_ret
 exact ⟨rfl, (Below.refl _ _).alloc (Nat.le_refl _) _⟩
set_option maxHeartbeats 1000000 in
theorem segm_Reclaim (s : Sg) (w : World) : Calls Tryz.prog 254 #[.agg #[int i64 s.t, int i64 s.ser, int i64 s.win]] w fun e w' => e = .returned (.agg #[int i64 s.t, int i64 s.ser, int i64 s.win]) /\ Below w.heap.size w w' := by
 obtain ⟨y0, y1, hbw, yz⟩ := box2 w (.cells #[int i64 s.t, int i64 s.ser, int i64 s.win] 177) (.cells #[int i64 s.t, int i64 s.ser, int i64 s.win] 137)
 go_enter Tryz.func254, Tryz.ntmps254
 go_wp2_with fail
 refine bodyPost_ret (v := .agg #[int i64 s.t, int i64 s.ser, int i64 s.win]) (results_cell_row Tryz.results254 _ _ (w.heap.size + 1) _ _ _ _ rfl y1 Tryz.underlying137 rfl (by kernel_rfl)) rfl ?_
 exact ⟨rfl, hbw⟩
set_option maxRecDepth 20000 in
set_option maxHeartbeats 2000000 in
theorem keyOf_Reclaim (s : Sg) (w : World) : Calls Tryz.prog 87 #[.iface 177 (.agg #[int i64 s.t, int i64 s.ser, int i64 s.win])] w fun e w' => e = .returned (.agg #[int i64 2, int i64 s.t, int i64 s.ser, int i64 s.win]) /\ Below w.heap.size w w' := by
 have b0 := zap w (.cells #[int i64 0, int i64 0, int i64 0, int i64 0] 147)
 have bz := zbd w (.cells #[int i64 0, int i64 0, int i64 0, int i64 0] 147)
 have hb0 : Below w.heap.size w (w.alloc (.cells #[int i64 0, int i64 0, int i64 0, int i64 0] 147)) := (Below.refl _ _).alloc (Nat.le_refl _) _
 have HK := fun W => zab (kind_Reclaim s W)
 have HS := fun W => zab (segm_Reclaim s W)
 have B0 := zab b0
 have BZ := zab bz
 have HB0 := zab hb0
 clear b0 bz hb0
 have hm1 := meth_Reclaim_Kind s
 have hm2 := meth_Reclaim_Segment s
 go_enter Tryz.func87, Tryz.ntmps87
 go_wp2_with (first
  | (go_at_call 253; refine (ud (HK _)).mono ?_; rintro e w1 ⟨rfl, hb1⟩; have HB1 := zab hb1; clear hb1)
  | (go_at_call 254; refine (ud (HS _)).mono ?_; rintro e w2 ⟨rfl, hb2⟩; have hz0 : w.heap.size < (w.alloc (.cells #[int i64 0, int i64 0, int i64 0, int i64 0] 147)).heap.size := (by rw [ud BZ]; omega); have e2 := (hb2.block w.heap.size (Nat.lt_of_lt_of_le hz0 (ud HB1).size)).trans (((ud HB1).block w.heap.size hz0).trans (ud B0)); have y0 : w2.cell? ⟨w.heap.size, 0, none⟩ = some (int i64 0) := (by rw [zac e2]; rfl); have y1 : w2.cell? ⟨w.heap.size, 1, none⟩ = some (int i64 0) := (by rw [zac e2]; rfl); have y2 : w2.cell? ⟨w.heap.size, 2, none⟩ = some (int i64 0) := (by rw [zac e2]; rfl); have y3 : w2.cell? ⟨w.heap.size, 3, none⟩ = some (int i64 0) := (by rw [zac e2]; rfl); have yf := fun j => zaz e2 j; have hl2 := zaa e2; have E2 := zab e2; have HB2 := zab hb2; clear hb2 e2 hz0))
 have hf := zbz (i := 3) (zbz (i := 2) (zbz (i := 1) (zbz (i := 0) (ud E2) (int i64 2)) (int i64 s.t)) (int i64 s.ser)) (int i64 s.win)
 refine bodyPost_ret (v := .agg #[int i64 2, int i64 s.t, int i64 s.ser, int i64 s.win]) (results_cell_row Tryz.results87 _ _ w.heap.size _ _ _ _ rfl hf Tryz.underlying147 rfl (by kernel_rfl)) rfl ?_
 have hb := ud HB0
 have hb1 := ud HB1
 have hb2 := ud HB2
 exact ⟨rfl, (hb.trans (hb1.mono hb.size)).trans ((hb2.mono (Nat.le_trans hb.size hb1.size)).trans (below4 (Nat.le_refl _) _ _ _ _))⟩
attribute [local go_sem] Oper.semAt_some
def zdm (c : Cf) (ser tm : Int) (k : Nat) : Sg := ⟨(k : Int), ser, tm / c.width (k : Int)⟩
def zec (c : Cf) (ser tm : Int) (k : Nat) : List Sg := (List.range k).map (zdm c ser tm)
theorem tierSegs_succ (c : Cf) (ser tm : Int) (k : Nat) : zec c ser tm (k + 1) = zec c ser tm k ++ [zdm c ser tm k] := by simp [zec, List.range_succ]
theorem tierSegs_len (c : Cf) (ser tm : Int) (k : Nat) : (zec c ser tm k).length = k := by simp [zec]
theorem tierSeg_wf {c : Cf} (hc : c.ok) {ser tm : Int} (hser : 0 <= ser /\ ser < 4) (htm : 0 <= tm /\ tm <= 100000) {k : Nat} (hk : k < c.n) : (zdm c ser tm k).wf := by
 obtain ⟨hw1, hw2⟩ := hc.width (t := (k : Int)) (by omega) (by omega)
 have hn := hc.n4
 have hd : 0 <= tm / c.width (k : Int) := Int.ediv_nonneg htm.1 (by omega)
 have hd2 : tm / c.width (k : Int) <= tm := Int.ediv_le_self _ htm.1
 refine ⟨?_, ?_, ?_⟩ <;> unfold i64B <;> simp only [zdm] <;> omega
structure Reads (W : World) (q : Nat) (s : Nat) (c : Cf) (tv : Value) (lb gb : Nat) (ser tm : Int) : Prop where
 b0 : W.heap[q]? = some (.cells #[.pointer (some ⟨s, 0, none⟩)] 81 (0, 0))
 b1 : W.heap[q + 1]? = some (.cells #[int i64 ser] 3 (0, 0))
 b2 : W.heap[q + 2]? = some (.cells #[int i64 tm] 3 (0, 0))
 hd : HeadAt W s c tv lb gb
theorem Reads.later {W W' : World} {q : Nat} {s : Nat} {c : Cf} {tv : Value} {lb gb : Nat} {ser tm : Int} (h : Reads W q s c tv lb gb ser tm) (hb : Below W.heap.size W W') : Reads W' q s c tv lb gb ser tm :=
 ⟨(hb.block _ (zaa h.b0)).trans h.b0, (hb.block _ (zaa h.b1)).trans h.b1, (hb.block _ (zaa h.b2)).trans h.b2, h.hd.later hb⟩
theorem grown_below {W W' : World} (h : Below W.heap.size W W') : W.grownBy W' none := ⟨h.os, h.tape, h.output, h.size, fun k hk _ => h.block k hk⟩
set_option maxRecDepth 100000 in
set_option maxHeartbeats 2000000 in
theorem cells1_any (n : Nat) (hn : 1 <= n) (l q s : Nat) (c : Cf) (hc : c.ok) (tv : Value) (lb gb : Nat) (ser tm : Int) (hser : 0 <= ser /\ ser < 4) (htm : 0 <= tm /\ tm <= 100000) (Kp : World -> World -> Prop) (hKr : ∀ A B, Kp A B -> Reads A q s c tv lb gb ser tm -> Reads B q s c tv lb gb ser tm) (J Jx : List WSg -> World -> Prop)
  (hY : ∀ pre x W, J pre W -> pre.length < c.n -> YieldAt Fence.wide (n - 1) Tryz.prog l #[.agg #[int i64 x.1.t, int i64 x.1.ser, int i64 x.1.win]] W fun e W' =>
   (e = .returned (.bool true) /\ J (pre ++ [x]) W' /\ Kp W W') \/ (e = .returned (.bool false) /\ Jx (pre ++ [x]) W'))
  (W : World) (hJ : AbidesFrom W.heap.size J) (hR : Reads W q s c tv lb gb ser tm) (h0 : J [] W) :
  CallsIn Fence.wide n Tryz.prog 204 #[.func (.yield l) #[] #[], .pointer (some ⟨q, 0, none⟩), .pointer (some ⟨q + 1, 0, none⟩), .pointer (some ⟨q + 2, 0, none⟩)] W fun e W' => (∃ v, e = .returned v) /\
   ((∃ xs, xs = (zec c ser tm c.n).map wSeg /\ J xs W') \/ (∃ pre, True /\ Jx pre W')) := by
 obtain ⟨a, cap, rfl⟩ := zah hR.hd.trow
 have HR := zab hR
 have HT := zab (ltiers_any c a cap W)
 obtain ⟨c0, c1, c2, c3, c4, c5, c6, -, -⟩ := hR.hd.cells
 have hsl := hR.hd.lt
 have q0 : W.cell? ⟨q, 0, none⟩ = some (.pointer (some ⟨s, 0, none⟩)) := by rw [zac hR.b0]; rfl
 have hn4 := hc.n4
 have HJ := zab hJ
 have HY := zab hY
 have HKR := zab hKr
 clear hR hJ hY hKr
 refine callsIn_of_wp Tryz.func204 rfl trivial ?_ rfl
 simp only [Tryz.ntmps204, List.size_toArray, List.length_cons, List.length_nil, Nat.reduceAdd, Nat.reduceSub, Array.replicate_succ, Array.replicate_zero, List.push_toArray, List.append_toArray, List.nil_append, List.cons_append]
 gi_wp2_with (first | (refine ⟨trivial, ?_⟩; gi_at_call 169; refine (callsIn_wide.2 (ud HT)).mono ?_; rintro e w1 ⟨rfl, hb1⟩) | gi_in)
 clear c0 c1 c2 c3 c4 c5 c6 q0 hsl
 gi_loopw [11] (fun i wr => ∃ k : Nat, k <= c.n /\ i = int i64 k /\ J ((zec c ser tm k).map wSeg) wr /\ Reads wr q s c (.slice a c.n cap) lb gb ser tm)
  (fun i _ => c.n - (intOf i).toNat)
 case atStart => exact ⟨0, Nat.zero_le _, rfl, ud HJ _ _ _ none h0 (grown_below hb1) (fun r e => by cases e), (ud HR).later hb1⟩
 case round =>
  obtain ⟨k, hk, rfl, hJs, hRr⟩ := hrel
  by_cases hlt : k < c.n
  ·have q0 : wr.cell? ⟨q, 0, none⟩ = some (.pointer (some ⟨s, 0, none⟩)) := by rw [zac hRr.b0]; rfl
   have q1 : wr.cell? ⟨q + 1, 0, none⟩ = some (int i64 ser) := by rw [zac hRr.b1]; rfl
   have q2 : wr.cell? ⟨q + 2, 0, none⟩ = some (int i64 tm) := by rw [zac hRr.b2]; rfl
   have hlt' : (k : Int) < c.n := by omega
   have HK := zab (pkey_any hRr.hd hc (k : Int) ser tm (by omega) hlt' htm)
   have HRR := zab hRr
   have hwk := tierSeg_wf hc hser htm hlt
   clear hRr
   gi_wp2_with (first | (refine ⟨trivial, ?_⟩; gi_at_call 168; refine (callsIn_wide.2 (ud HK)).mono ?_; rintro e w2 ⟨rfl, hb2⟩; have hJ2 := ud HJ _ _ _ none hJs (grown_below hb2) (fun r e => by cases e); obtain ⟨fn, tmps, assign, body, hy, hR3⟩ := ud HY _ (wSeg (zdm c ser tm k)) w2 hJ2 (by rw [List.length_map, tierSegs_len]; exact hlt); rw [wSeg_val hwk] at hy; dsimp only [zdm] at hy) | gi_in)
   refine hR3.mono ?_
   rintro e W3 (⟨rfl, hJ3, hk3⟩ | ⟨rfl, hJx3⟩)
   ·have HR3 := zab (ud HKR _ _ hk3 ((ud HRR).later hb2))
    gi_wp2
    go_roundw
    case rel => exact ⟨k + 1, by omega, by simp, by rw [tierSegs_succ, List.map_append, List.map_singleton]; exact hJ3, ud HR3⟩
    case measure => simp [intOf]; omega
   ·gi_wp2
    refine bodyPost_ret (results_none rfl _ _ _) rfl ?_
    exact ⟨⟨_, rfl⟩, .inr ⟨_, trivial, hJx3⟩⟩
  ·obtain rfl : k = c.n := by omega
   gi_wp2
   go_end0
   exact ⟨⟨_, rfl⟩, .inl ⟨_, rfl, hJs⟩⟩
theorem cells_enters : ∀ args w, (callFunc 204 args).run Tryz.prog w = .ok (.enter 204 args) w := enters_of Tryz.func204 (by kernel_rfl) rfl
theorem cells_stops (n : Nat) (hn : 1 <= n) (q s : Nat) (c : Cf) (hc : c.ok) (tv : Value) (lb gb : Nat) (ser tm : Int) (hser : 0 <= ser /\ ser < 4) (htm : 0 <= tm /\ tm <= 100000) (Kp : World -> World -> Prop) (hKr : ∀ A B, Kp A B -> Reads A q s c tv lb gb ser tm -> Reads B q s c tv lb gb ser tm) (w : World) (hR : Reads w q s c tv lb gb ser tm) :
  SeqStopsK Fence.wide n Tryz.prog 204 #[.pointer (some ⟨q, 0, none⟩), .pointer (some ⟨q + 1, 0, none⟩), .pointer (some ⟨q + 2, 0, none⟩)] (fun x : WSg => #[.agg #[int i64 x.1.t, int i64 x.1.ser, int i64 x.1.win]]) Kp (fun xs => xs = (zec c ser tm c.n).map wSeg) (fun _ => True) c.n w :=
 fun l J Jx W hW hJ _ hY h0 => cells1_any n hn l q s c hc tv lb gb ser tm hser htm Kp hKr J Jx hY W hJ (hR.later hW) h0
theorem box3p (w : World) (o1 o2 o3 : Obj) : (((w.alloc o1).alloc o2).alloc o3).heap[w.heap.size]? = some o1 /\ (((w.alloc o1).alloc o2).alloc o3).heap[w.heap.size + 1]? = some o2 /\ (((w.alloc o1).alloc o2).alloc o3).heap[w.heap.size + 2]? = some o3 /\ Below w.heap.size w (((w.alloc o1).alloc o2).alloc o3) /\ (((w.alloc o1).alloc o2).alloc o3).heap.size = w.heap.size + 3 := by
 obtain ⟨h1, h2, h3, h4⟩ := box2 w o1 o2
 refine ⟨(Below.heap_alloc _ _ _ (by rw [h4]; omega)).trans h1, (Below.heap_alloc _ _ _ (by rw [h4]; omega)).trans h2, ?_, h3.alloc (by rw [h4]; omega) _, by simp⟩
 have := zap ((w.alloc o1).alloc o2) o3
 rw [h4] at this; exact this
def cellsW (w : World) (s : Nat) (ser tm : Int) : World := ((w.alloc (.cells #[.pointer (some ⟨s, 0, none⟩)] 81)).alloc (.cells #[int i64 ser] 3)).alloc (.cells #[int i64 tm] 3)
theorem cells_reads {w : World} {s : Nat} {c : Cf} {tv : Value} {lb gb : Nat} (h : HeadAt w s c tv lb gb) (ser tm : Int) : Reads (cellsW w s ser tm) w.heap.size s c tv lb gb ser tm /\ Below w.heap.size w (cellsW w s ser tm) /\ (cellsW w s ser tm).heap.size = w.heap.size + 3 := by
 obtain ⟨h1, h2, h3, h4, h5⟩ := box3p w (.cells #[.pointer (some ⟨s, 0, none⟩)] 81) (.cells #[int i64 ser] 3) (.cells #[int i64 tm] 3)
 exact ⟨⟨h1, h2, h3, h.later h4⟩, h4, h5⟩
theorem cellsOf_any (s : Nat) (ser tm : Int) (w : World) :
  Calls Tryz.prog 166 #[.pointer (some ⟨s, 0, none⟩), int i64 ser, int i64 tm] w fun e w' => e = .returned (.func (.func 204) #[] #[.pointer (some ⟨w.heap.size, 0, none⟩), .pointer (some ⟨w.heap.size + 1, 0, none⟩), .pointer (some ⟨w.heap.size + 2, 0, none⟩)]) /\ w' = cellsW w s ser tm := by
 go_enter Tryz.func166, Tryz.ntmps166
 go_wp2_with fail
 go_ret
 exact ⟨rfl, rfl⟩
theorem own_lt {w : World} {base : Nat} {e : TypeId} {size : Nat} {v : Value} {n : Nat} {xs : List Value} (h : w.ownsRow base e size v n xs) : ∀ k, v.ownBlock = some k -> k < w.heap.size := fun k hk => by
 obtain ⟨cur, hc⟩ := zbp h hk; exact zaa hc
theorem Reads.kx {ex : Nat -> Prop} {n m : Nat} {A B : World} {q s : Nat} {c : Cf} {tv : Value} {lb gb : Nat} {ser tm : Int} (h : Reads A q s c tv lb gb ser tm) (hk : KX ex n m A B) (hq : ∀ i, i <= 2 -> q + i < n /\ ¬ ex (q + i)) (hs : s < n /\ ¬ ex s) (ht : ∀ k, tv.ownBlock = some k -> k < n /\ ¬ ex k) : Reads B q s c tv lb gb ser tm :=
 ⟨zdg hk h.b0 (hq 0 (by omega)).1 (hq 0 (by omega)).2, zdg hk h.b1 (hq 1 (by omega)).1 (hq 1 (by omega)).2, zdg hk h.b2 (hq 2 (by omega)).1 (hq 2 (by omega)).2, h.hd.kept hk.kept (fun e => e.elim hs.2 (by have := hs.1; omega)) (fun k hh e => by have := ht k hh; exact e.elim this.2 (by omega))⟩
theorem cells_seq {ex : Nat -> Prop} {n : Nat} (q s : Nat) (c : Cf) (hc : c.ok) (tv : Value) (lb gb : Nat) (ser tm : Int) (hser : 0 <= ser /\ ser < 4) (htm : 0 <= tm /\ tm <= 100000) (w : World) (hR : Reads w q s c tv lb gb ser tm) (hq : ∀ i, i <= 2 -> q + i < n /\ ¬ ex (q + i)) (hs : s < n /\ ¬ ex s) (ht : ∀ k, tv.ownBlock = some k -> k < n /\ ¬ ex k) :
  SeqF ex n Tryz.prog 204 #[.pointer (some ⟨q, 0, none⟩), .pointer (some ⟨q + 1, 0, none⟩), .pointer (some ⟨q + 2, 0, none⟩)] (fun x : WSg => #[.agg #[int i64 x.1.t, int i64 x.1.ser, int i64 x.1.win]]) (fun xs => xs = (zec c ser tm c.n).map wSeg) c.n w :=
 fun m _ => SeqO.of (cells_stops 6 (by omega) q s c hc tv lb gb ser tm hser htm (KX ex n m) (fun A B hAB hRA => hRA.kx hAB hq hs ht) w hR)
theorem missing_enters : ∀ args w, (callFunc 167 args).run Tryz.prog w = .ok (.enter 167 args) w := enters_of Tryz.func167 (by kernel_rfl) rfl
theorem missG_count {c : Cf} (hc : c.ok) {L : LV} {Gl : List (Sg × Unit)} {ser tm val : Int} (hser : 0 <= ser /\ ser < 4) (htm : 0 <= tm /\ tm <= 100000) (hst : ∀ p ∈ L, p.2.st ≠ 0) (hng : ∀ k : Nat, k < c.n -> zbm Gl (zdm c ser tm k) = none) : ∀ k, k <= c.n -> ((((zec c ser tm k).map wSeg).filter (fun x => (stG Gl L x.1).st == 0)).length : Int) = zeq c L ⟨ser, tm, val⟩ k
 | 0, _ => by simp [zec, zeq]
 | k + 1, hk => by
  have ih := missG_count hc (val := val) hser htm hst hng k (by omega)
  rw [tierSegs_succ, List.map_append, List.filter_append, List.length_append, Int.natCast_add, ih]
  simp only [List.map_cons, List.map_nil, List.filter_cons, List.filter_nil, zeq]
  rw [wSeg_val (tierSeg_wf hc hser htm (by omega))]
  have e : zar c (k : Int) ⟨ser, tm, val⟩ = zdm c ser tm k := rfl
  have e2 : stG Gl L (zdm c ser tm k) = stL L (zdm c ser tm k) := by unfold stG; rw [hng k (by omega)]
  rw [e, e2]
  by_cases hm : zdm c ser tm k ∈ zam L
  ·obtain ⟨v, hv, hvm⟩ := getL_of hm
   have h1 : ¬ (stL L (zdm c ser tm k)).st = 0 := by unfold stL; rw [hv]; exact hst _ hvm
   simp [h1, hm]
  ·have h1 : (stL L (zdm c ser tm k)).st = 0 := by unfold stL; rw [zfg.2 hm]; rfl
   simp [h1, hm]
set_option maxHeartbeats 2000000 in
theorem pcost_any {w : World} {s : Nat} {c : Cf} {tv : Value} {lb gb : Nat} {Gl : List (Sg × Unit)} {L : LV} (h : zda w s c tv lb gb Gl L) (hc : c.ok) (ser tm val : Int) (hser : 0 <= ser /\ ser < 4) (htm : 0 <= tm /\ tm <= 100000) (hst : ∀ p ∈ L, p.2.st ≠ 0) (hng : ∀ k : Nat, k < c.n -> zbm Gl (zdm c ser tm k) = none) :
  Calls Tryz.prog 115 #[.pointer (some ⟨s, 0, none⟩), int i64 ser, int i64 tm] w fun e w' => e = .returned (int i64 (1 + 2 * zeq c L ⟨ser, tm, val⟩ c.n)) /\ Below w.heap.size w w' := by
 have hmb := missL_bounds c L ⟨ser, tm, val⟩ c.n
 have hn4 := hc.n4
 have hE := missG_count hc (val := val) hser htm hst hng c.n (Nat.le_refl _)
 generalize zeq c L ⟨ser, tm, val⟩ c.n = M at *
 obtain ⟨hm1, hm2⟩ := hmb
 obtain ⟨hR, hbX, hXz⟩ := cells_reads h.hd ser tm
 have hfl := h.foot_lt
 have HCO := zab (cellsOf_any s ser tm w)
 have HKC := zab (cnt_key (fun x : WSg => x.1) 204 #[.pointer (some ⟨w.heap.size, 0, none⟩), .pointer (some ⟨w.heap.size + 1, 0, none⟩), .pointer (some ⟨w.heap.size + 2, 0, none⟩)] cells_enters 167 #[.pointer (some ⟨s, 0, none⟩)] #[] missing_enters (fun x => (stG Gl L x.1).st == 0) (cellsW w s ser tm)
  (fun x W hW => pmissing_any (h.later (hbX.trans (hW.mono hbX.size))) x.1 x.2)
  (cells_seq w.heap.size s c hc tv lb gb ser tm hser htm (cellsW w s ser tm) hR (fun i hi => ⟨by omega, fun e => e⟩) ⟨by have := h.lt; omega, fun e => e⟩ (fun k hk => ⟨by have := hfl k (.inr (.inl hk)); omega, fun e => e⟩))
  (fun xs e => by rw [e, List.length_map, tierSegs_len]; omega))
 have HE := zab hE
 have HBX := zab hbX
 clear hE hR hbX h hst hng hfl hXz
 go_enter Tryz.func115, Tryz.ntmps115
 go_wp2_with fail
 refine (ud HCO).mono ?_
 rintro e w1 ⟨rfl, rfl⟩
 go_wp2_with fail
 refine (ud HKC).mono ?_
 rintro e w1 ⟨xs, rfl, he, hb1⟩
 rw [ud HE] at he
 subst he
 go_wp2_with fail
 go_ret
 exact ⟨rfl, (ud HBX).trans (hb1.mono (ud HBX).size)⟩
attribute [local go_sem] Oper.semAt_some
def CAt (W : World) (b : Nat) (l : List Cl) : Prop := ∀ j x, l[j]? = some x -> W.cell? ⟨b, j * 4, none⟩ = some (int i64 x.cnt) /\ W.cell? ⟨b, j * 4 + 1, none⟩ = some (int i64 x.sum) /\ W.cell? ⟨b, j * 4 + 2, none⟩ = some (.int .i32 x.mn) /\ W.cell? ⟨b, j * 4 + 3, none⟩ = some (.int .i32 x.mx)
theorem CAt.below {n b : Nat} {A B : World} {l : List Cl} (h : CAt A b l) (hb : Below n A B) (hl : b < n) : CAt B b l := fun j x hx => by
 obtain ⟨h1, h2, h3, h4⟩ := h j x hx
 exact ⟨(hb.cell (p := ⟨b, _, none⟩) hl).trans h1, (hb.cell (p := ⟨b, _, none⟩) hl).trans h2, (hb.cell (p := ⟨b, _, none⟩) hl).trans h3, (hb.cell (p := ⟨b, _, none⟩) hl).trans h4⟩
set_option maxRecDepth 100000 in
set_option maxHeartbeats 2000000 in
theorem cvals1_any (n : Nat) (hn : 1 <= n) (l Bs n₀ b cap : Nat) (ad : Option Addr) (zs : List Cl) (ha : zs ≠ [] -> ad = some ⟨b, 0, none⟩) (hz : zs.length <= 1000) (hb : b < n₀) (J Jx : List Cl -> World -> Prop)
  (hY : ∀ pre x W, J pre W -> pre.length < zs.length -> YieldAt Fence.wide (n - 1) Tryz.prog l #[.agg #[int i64 x.cnt, int i64 x.sum, .int .i32 x.mn, .int .i32 x.mx]] W fun e W' =>
   (e = .returned (.bool true) /\ J (pre ++ [x]) W' /\ Below n₀ W W') \/ (e = .returned (.bool false) /\ Jx (pre ++ [x]) W'))
  (W : World) (hn0 : n₀ <= W.heap.size) (hJ : AbidesFrom W.heap.size J) (hBs : W.cell? ⟨Bs, 0, none⟩ = some (.slice ad zs.length cap)) (hc : CAt W b zs) (h0 : J [] W) :
  CallsIn Fence.wide n Tryz.prog 218 #[.func (.yield l) #[] #[], .pointer (some ⟨Bs, 0, none⟩)] W fun e W' => (∃ v, e = .returned v) /\
   ((∃ xs, xs = zs /\ J xs W') \/ (∃ pre, True /\ Jx pre W')) := by
 have HC := zab hc
 have HY := zab hY
 have HJ := zab hJ
 clear hc hY hJ
 refine callsIn_of_wp Tryz.func218 rfl trivial ?_ rfl
 simp only [Tryz.ntmps218, List.size_toArray, List.length_cons, List.length_nil, Nat.reduceAdd, Nat.reduceSub, Array.replicate_succ, Array.replicate_zero, List.push_toArray, List.append_toArray, List.nil_append, List.cons_append]
 gi_wp2
 gi_loopw [7] (fun i wr => ∃ k : Nat, k <= zs.length /\ i = int i64 k /\ J (zs.take k) wr /\ Below n₀ W wr)
  (fun i _ => zs.length - (intOf i).toNat)
 case atStart => exact ⟨0, Nat.zero_le _, rfl, h0, Below.refl _ _⟩
 case round =>
  obtain ⟨k, hk, rfl, hJs, hnx⟩ := hrel
  by_cases hlt : k < zs.length
  ·obtain rfl := ha (fun e => by rw [e] at hlt; simp at hlt)
   obtain ⟨x, hx⟩ := zch hlt
   obtain ⟨y0, y1, y2, y3⟩ := (ud HC).below hnx hb k x hx
   have hJA := ud HJ _ _ _ none hJs (World.grownBy_alloc wr (.cells #[int i64 x.cnt, int i64 x.sum, .int .i32 x.mn, .int .i32 x.mx] 114) none) (fun r e => by cases e)
   obtain ⟨fn, tmps, assign, body, hy, hR⟩ := ud HY _ x _ hJA (by rw [List.length_take]; omega)
   have hlt' : (k : Int) < zs.length := by omega
   have HX := zab hx
   have HNX := zab hnx
   clear hx hnx hJA
   gi_wp2
   refine hR.mono ?_
   rintro e W3 (⟨rfl, hJ3, hk3⟩ | ⟨rfl, hJx3⟩)
   ·gi_wp2
    go_roundw
    case rel =>
     refine ⟨k + 1, by omega, by simp, ?_, ?_⟩
     ·obtain ⟨hl, ex⟩ := List.getElem?_eq_some_iff.1 (ud HX)
      rw [List.take_succ_eq_append_getElem hl, ex]; exact hJ3
     ·exact ((ud HNX).alloc (Nat.le_trans hn0 (ud HNX).size) _).trans hk3
    case measure => simp [intOf]; omega
   ·gi_wp2
    refine bodyPost_ret (results_none rfl _ _ _) rfl ?_
    exact ⟨⟨_, rfl⟩, .inr ⟨_, trivial, hJx3⟩⟩
  ·obtain rfl : k = zs.length := by omega
   gi_wp2
   go_end0
   exact ⟨⟨_, rfl⟩, .inl ⟨_, List.take_length, hJs⟩⟩
theorem cvalues_any (a : Option Addr) (len cap : Nat) (w : World) :
  Calls Tryz.prog 182 #[.slice a len cap] w fun e w' => e = .returned (.func (.func 218) #[] #[.pointer (some ⟨w.heap.size, 0, none⟩)]) /\ w' = w.alloc (.cells #[.slice a len cap] 219) := by
 go_enter Tryz.func182, Tryz.ntmps182
 go_wp2_with fail
 go_ret
 exact ⟨rfl, rfl⟩
theorem cv_enters : ∀ args w, (callFunc 218 args).run Tryz.prog w = .ok (.enter 218 args) w := enters_of Tryz.func218 (by kernel_rfl) rfl
theorem cvalues_stops (n : Nat) (hn : 1 <= n) (Bs n₀ b cap : Nat) (ad : Option Addr) (zs : List Cl) (ha : zs ≠ [] -> ad = some ⟨b, 0, none⟩) (hz : zs.length <= 1000) (hb : b < n₀) (w : World) (hn0 : n₀ <= w.heap.size) (hBl : Bs < w.heap.size) (hBs : w.cell? ⟨Bs, 0, none⟩ = some (.slice ad zs.length cap)) (hc : CAt w b zs) :
  SeqStopsK Fence.wide n Tryz.prog 218 #[.pointer (some ⟨Bs, 0, none⟩)] (fun x : Cl => #[.agg #[int i64 x.cnt, int i64 x.sum, .int .i32 x.mn, .int .i32 x.mx]]) (Below n₀) (fun xs => xs = zs) (fun _ => True) zs.length w :=
 fun l J Jx W hW hJ _ hY h0 => cvals1_any n hn l Bs n₀ b cap ad zs ha hz hb J Jx hY W (Nat.le_trans hn0 hW.size) hJ ((hW.cell (p := ⟨Bs, 0, none⟩) hBl).trans hBs) (hc.below (hW.mono hn0) hb) h0
def cmpI (a b : Int) : Int := if a < b then -1 else if b < a then 1 else 0
set_option maxHeartbeats 1000000 in
theorem isNaN_any (a : Int) (w : World) : Calls Tryz.prog 219 #[.int .i32 a] w fun e w' => e = .returned (.bool false) /\ w' = w := by
 have h : (a == a) = true := by simp
 go_enter Tryz.func219, Tryz.ntmps219
 go_wp2_with fail
 go_ret
 exact ⟨by simp, rfl⟩
set_option maxHeartbeats 1000000 in
theorem compare_any (a b : Int) (w : World) : Calls Tryz.prog 184 #[.int .i32 a, .int .i32 b] w fun e w' => e = .returned (int i64 (cmpI a b)) /\ w' = w := by
 rcases Int.lt_trichotomy a b with h | h | h
 ·rw [show cmpI a b = -1 from by simp [cmpI, h]]
  go_enter Tryz.func184, Tryz.ntmps184
  go_wp2_with (go_at_call 219; refine (isNaN_any _ _).mono ?_; rintro e w1 ⟨rfl, rfl⟩)
  go_ret
  exact ⟨rfl, rfl⟩
 ·rw [show cmpI a b = 0 from by simp [cmpI, h]]
  have h1 : ¬ a < b := by omega
  have h2 : ¬ b < a := by omega
  have h3 : decide (a < b) = false := by simpa using h1
  have h4 : decide (b < a) = false := by simpa using h2
  go_enter Tryz.func184, Tryz.ntmps184
  go_wp2_with (go_at_call 219; refine (isNaN_any _ _).mono ?_; rintro e w1 ⟨rfl, rfl⟩)
  go_ret
  exact ⟨rfl, rfl⟩
 ·have h1 : ¬ a < b := by omega
  rw [show cmpI a b = 1 from by simp [cmpI, h, h1]]
  have h3 : decide (a < b) = false := by simpa using h1
  go_enter Tryz.func184, Tryz.ntmps184
  go_wp2_with (go_at_call 219; refine (isNaN_any _ _).mono ?_; rintro e w1 ⟨rfl, rfl⟩)
  go_ret
  exact ⟨rfl, rfl⟩
def ord1 (x y : Cl) : Int := cmpI x.mn y.mn
def ord2 (x y : Cl) : Int := cmpI y.mx x.mx
set_option maxHeartbeats 1000000 in
theorem join1_any (x y : Cl) (w : World) : Calls Tryz.prog 183 #[.agg #[int i64 x.cnt, int i64 x.sum, .int .i32 x.mn, .int .i32 x.mx], .agg #[int i64 y.cnt, int i64 y.sum, .int .i32 y.mn, .int .i32 y.mx]] w fun e w' => e = .returned (int i64 (ord1 x y)) /\ Below w.heap.size w w' := by
 go_enter Tryz.func183, Tryz.ntmps183
 go_wp2_with (go_at_call 184; refine (compare_any _ _ _).mono ?_; rintro e w1 ⟨rfl, rfl⟩)
 go_ret
 exact ⟨rfl, (box2 w _ _).2.2.1⟩
set_option maxHeartbeats 1000000 in
theorem join2_any (x y : Cl) (w : World) : Calls Tryz.prog 185 #[.agg #[int i64 x.cnt, int i64 x.sum, .int .i32 x.mn, .int .i32 x.mx], .agg #[int i64 y.cnt, int i64 y.sum, .int .i32 y.mn, .int .i32 y.mx]] w fun e w' => e = .returned (int i64 (ord2 x y)) /\ Below w.heap.size w w' := by
 go_enter Tryz.func185, Tryz.ntmps185
 go_wp2_with (go_at_call 184; refine (compare_any _ _ _).mono ?_; rintro e w1 ⟨rfl, rfl⟩)
 go_ret
 exact ⟨rfl, (box2 w _ _).2.2.1⟩
theorem join3_any (x : Cl) (w : World) : Calls Tryz.prog 187 #[.agg #[int i64 x.cnt, int i64 x.sum, .int .i32 x.mn, .int .i32 x.mx]] w fun e w' => e = .returned (int i64 x.cnt) /\ Below w.heap.size w w' := by
 go_enter Tryz.func187, Tryz.ntmps187
 go_wp2_with fail
 go_ret
 exact ⟨rfl, (Below.refl _ _).alloc (Nat.le_refl _) _⟩
theorem join4_any (x : Cl) (w : World) : Calls Tryz.prog 189 #[.agg #[int i64 x.cnt, int i64 x.sum, .int .i32 x.mn, .int .i32 x.mx]] w fun e w' => e = .returned (int i64 x.sum) /\ Below w.heap.size w w' := by
 go_enter Tryz.func189, Tryz.ntmps189
 go_wp2_with fail
 go_ret
 exact ⟨rfl, (Below.refl _ _).alloc (Nat.le_refl _) _⟩
end Go.Proofs.YtpbimdkclnekeaaGreat
