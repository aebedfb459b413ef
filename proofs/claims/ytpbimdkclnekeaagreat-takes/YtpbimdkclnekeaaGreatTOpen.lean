import Derived.Test.YtpbimdkclnekeaaGreatTLater
import Derived.ProofKit
import Derived.OpenShut
import Derived.Deep.Slices
import Derived.Deep.Strs
import Derived.SizedLaws
import Derived.Deep.WholeRow

namespace Go.Proofs.YtpbimdkclnekeaaGreat
open Value (int)
open IntKind (i64)
open Go.RowKit Go.ChangeShapes Go.WideShapes
theorem Tryz.cellsConfig : Tryz.prog.cellsOf 27 = 7 := by kernel_rfl
theorem Tryz.cellsTier : Tryz.prog.cellsOf 66 = 3 := by kernel_rfl
theorem Tryz.cellsInt : Tryz.prog.cellsOf 3 = 1 := by kernel_rfl
theorem Tryz.cellsTiers : Tryz.prog.cellsOf 25 = 1 := by kernel_rfl
theorem Tryz.bytesTier : Tryz.prog.bytesOf 66 = 24 := by kernel_rfl
section
variable {H : Type} {enc : TypeId × Value -> H} {w : World} {held : Bool}
set_option maxRecDepth 20000 in
theorem open_tier {fuel : Nat} {cs : List Value} {x : DataW H × List MemPlace} (h : DataW.trod enc Tryz.prog w 0 (fun _ => true) held fuel 66 cs = some x) : ∃ f wd k : Int, cs = [int i64 f, int i64 wd, int i64 k] := by
 obtain ⟨xs, m, _, rfl, hl, hlen, hf⟩ := DataW.trod_struct Tryz.underlying66 h
 rw [Tryz.cellsTier] at hl
 match cs, hl with
 | [c0, c1, c2], _ =>
  match xs, hlen with
  | [y0, y1, y2], _ =>
   have q0 : DataW.trod enc Tryz.prog w 0 (fun _ => true) held m 3 [c0] = some y0 := by have h : DataW.trod enc Tryz.prog w 0 (fun _ => true) held m 3 (([c0, c1, c2].drop 0).take (Tryz.prog.cellsOf 3)) = some y0 := hf 0 _ rfl; rw [Tryz.cellsInt] at h; exact h
   have q1 : DataW.trod enc Tryz.prog w 0 (fun _ => true) held m 3 [c1] = some y1 := by have h : DataW.trod enc Tryz.prog w 0 (fun _ => true) held m 3 (([c0, c1, c2].drop 1).take (Tryz.prog.cellsOf 3)) = some y1 := hf 1 _ rfl; rw [Tryz.cellsInt] at h; exact h
   have q2 : DataW.trod enc Tryz.prog w 0 (fun _ => true) held m 3 [c2] = some y2 := by have h : DataW.trod enc Tryz.prog w 0 (fun _ => true) held m 3 (([c0, c1, c2].drop 2).take (Tryz.prog.cellsOf 3)) = some y2 := hf 2 _ rfl; rw [Tryz.cellsInt] at h; exact h
   obtain ⟨a0, e0, _, _⟩ := DataW.trod_int Tryz.underlying3 q0
   obtain ⟨a1, e1, _, _⟩ := DataW.trod_int Tryz.underlying3 q1
   obtain ⟨a2, e2, _, _⟩ := DataW.trod_int Tryz.underlying3 q2
   simp at e0 e1 e2
   exact ⟨a0, a1, a2, by rw [e0, e1, e2]⟩
theorem zbt (b off j : Nat) : (⟨b, off, none⟩ : Addr).add j = ⟨b, off + j, none⟩ := by unfold Addr.add; split <;> simp_all
theorem open_tiers {fuel : Nat} {cs : List Value} {x : DataW H × List MemPlace} (h : DataW.trod enc Tryz.prog w 0 (fun _ => true) held fuel 25 cs = some x) :
  ∃ (a : Option Addr) (n cap : Nat) (F W K : Nat -> Int), cs = [.slice a n cap] /\ TS w a n F W K /\ n <= cap /\ ((n = 0 /\ x.1 = .nil) \/ ∃ elems spare, x.1 = .slice elems spare /\ elems.length = n) := by
 rcases Go.Deep.open_slice Tryz.underlying25 h with ⟨rfl, rfl⟩ | ⟨a, len, cap, m, n, D, Pl, rfl, hb, hl, hm, hmm, rfl, hx⟩
 ·exact ⟨none, 0, 0, fun _ => 0, fun _ => 0, fun _ => 0, rfl, fun h0 => absurd h0 (Nat.lt_irrefl _), Nat.le_refl _, .inl ⟨rfl, rfl⟩⟩
 ·rw [Tryz.cellsTier] at hx
  obtain ⟨G, hG⟩ := Go.Deep.choose_lt (α := Int × Int × Int) (n := len) (p := fun i g => w.cells? 0 (a.add (i * 3)) 3 = some [int i64 g.1, int i64 g.2.1, int i64 g.2.2]) (fun i hi => by
   obtain ⟨cs', h1, h2⟩ := hx i (by rw [hmm]; simp; omega)
   obtain ⟨f, wd, k, rfl⟩ := open_tier h2
   exact ⟨(f, wd, k), h1⟩)
  refine ⟨some a, len, cap, fun i => (G i).1, fun i => (G i).2.1, fun i => (G i).2.2, rfl, fun h0 => ?_, hl, .inr ⟨_, _, rfl, by simp⟩⟩
  obtain ⟨b, off, spot⟩ := a
  have c0 := (World.cells?_some (hG 0 h0)).2.2 0 (by omega)
  have hspot : spot = none := by simpa [Addr.add] using World.cell?_spot (c0.trans (by rfl))
  subst hspot
  have hbz : b < w.heap.size := by
   have : w.cell? ⟨b, off, none⟩ = some (int i64 (G 0).1) := by simpa [Addr.add] using c0
   by_cases hc : b < w.heap.size
   ·exact hc
   ·simp [World.cell?, Array.getElem?_eq_none (show w.heap.size <= b by omega)] at this
  refine ⟨b, off, rfl, hbz, fun i hi => ?_⟩
  have e := (World.cells?_some (hG i hi)).2.2
  refine ⟨?_, ?_, ?_⟩
  ·have := e 0 (by omega); simpa [zbt] using this
  ·have := e 1 (by omega); simpa [zbt] using this
  ·have := e 2 (by omega); simpa [zbt] using this
set_option maxRecDepth 20000 in
theorem open_config {fuel : Nat} {cs : List Value} {x : DataW H × List MemPlace} (h : DataW.trod enc Tryz.prog w 0 (fun _ => true) held fuel 27 cs = some x) :
  ∃ (s le la wi ke qu : Int) (a : Option Addr) (n cap : Nat) (F W K : Nat -> Int), cs = [int i64 s, int i64 le, int i64 la, int i64 wi, int i64 ke, int i64 qu, .slice a n cap] /\ TS w a n F W K /\ n <= cap /\
   ((∀ y ∈ x.1.weights Tryz.prog 27, y <= reachBytes) -> 24 * n <= reachBytes) := by
 obtain ⟨xs, m, _, rfl, hl, hlen, hf⟩ := DataW.trod_struct Tryz.underlying27 h
 rw [Tryz.cellsConfig] at hl
 match cs, hl with
 | [c0, c1, c2, c3, c4, c5, c6], _ =>
  match xs, hlen with
  | [y0, y1, y2, y3, y4, y5, y6], _ =>
   have q0 : DataW.trod enc Tryz.prog w 0 (fun _ => true) held m 3 [c0] = some y0 := by have h : DataW.trod enc Tryz.prog w 0 (fun _ => true) held m 3 (([c0, c1, c2, c3, c4, c5, c6].drop 0).take (Tryz.prog.cellsOf 3)) = some y0 := hf 0 _ rfl; rw [Tryz.cellsInt] at h; exact h
   have q1 : DataW.trod enc Tryz.prog w 0 (fun _ => true) held m 3 [c1] = some y1 := by have h : DataW.trod enc Tryz.prog w 0 (fun _ => true) held m 3 (([c0, c1, c2, c3, c4, c5, c6].drop 1).take (Tryz.prog.cellsOf 3)) = some y1 := hf 1 _ rfl; rw [Tryz.cellsInt] at h; exact h
   have q2 : DataW.trod enc Tryz.prog w 0 (fun _ => true) held m 3 [c2] = some y2 := by have h : DataW.trod enc Tryz.prog w 0 (fun _ => true) held m 3 (([c0, c1, c2, c3, c4, c5, c6].drop 2).take (Tryz.prog.cellsOf 3)) = some y2 := hf 2 _ rfl; rw [Tryz.cellsInt] at h; exact h
   have q3 : DataW.trod enc Tryz.prog w 0 (fun _ => true) held m 3 [c3] = some y3 := by have h : DataW.trod enc Tryz.prog w 0 (fun _ => true) held m 3 (([c0, c1, c2, c3, c4, c5, c6].drop 3).take (Tryz.prog.cellsOf 3)) = some y3 := hf 3 _ rfl; rw [Tryz.cellsInt] at h; exact h
   have q4 : DataW.trod enc Tryz.prog w 0 (fun _ => true) held m 3 [c4] = some y4 := by have h : DataW.trod enc Tryz.prog w 0 (fun _ => true) held m 3 (([c0, c1, c2, c3, c4, c5, c6].drop 4).take (Tryz.prog.cellsOf 3)) = some y4 := hf 4 _ rfl; rw [Tryz.cellsInt] at h; exact h
   have q5 : DataW.trod enc Tryz.prog w 0 (fun _ => true) held m 3 [c5] = some y5 := by have h : DataW.trod enc Tryz.prog w 0 (fun _ => true) held m 3 (([c0, c1, c2, c3, c4, c5, c6].drop 5).take (Tryz.prog.cellsOf 3)) = some y5 := hf 5 _ rfl; rw [Tryz.cellsInt] at h; exact h
   have q6 : DataW.trod enc Tryz.prog w 0 (fun _ => true) held m 25 [c6] = some y6 := by have h : DataW.trod enc Tryz.prog w 0 (fun _ => true) held m 25 (([c0, c1, c2, c3, c4, c5, c6].drop 6).take (Tryz.prog.cellsOf 25)) = some y6 := hf 6 _ rfl; rw [Tryz.cellsTiers] at h; exact h
   obtain ⟨a0, e0, _, _⟩ := DataW.trod_int Tryz.underlying3 q0
   obtain ⟨a1, e1, _, _⟩ := DataW.trod_int Tryz.underlying3 q1
   obtain ⟨a2, e2, _, _⟩ := DataW.trod_int Tryz.underlying3 q2
   obtain ⟨a3, e3, _, _⟩ := DataW.trod_int Tryz.underlying3 q3
   obtain ⟨a4, e4, _, _⟩ := DataW.trod_int Tryz.underlying3 q4
   obtain ⟨a5, e5, _, _⟩ := DataW.trod_int Tryz.underlying3 q5
   obtain ⟨a, n, cap, F, W, K, e6, hts, hnc, hd⟩ := open_tiers q6
   simp at e0 e1 e2 e3 e4 e5 e6
   refine ⟨a0, a1, a2, a3, a4, a5, a, n, cap, F, W, K, by rw [e0, e1, e2, e3, e4, e5, e6], hts, hnc, fun hw => ?_⟩
   rcases hd with ⟨rfl, _⟩ | ⟨elems, spare, hd, hel⟩
   ·simp
   ·have hh := hw ((elems.length + spare.length) * 24) (by
     refine (show ∀ n ∈ y6.1.weights Tryz.prog 25, n ∈ _ from fun n hn => ?_) _ (by rw [hd]; simp [DataW.weights, Tryz.underlying25, Tryz.bytesTier])
     simp only [DataW.weights, Tryz.underlying27]
     exact DataW.weights_mem_each (j := 6) rfl rfl n hn)
    rw [hel] at hh
    omega
end
end Go.Proofs.YtpbimdkclnekeaaGreat

namespace Go.Proofs.YtpbimdkclnekeaaGreat
open Value (int)
open IntKind (i64)
open Go.RowKit
set_option linter.unusedVariables false
theorem zac {w : World} {g : Nat} {cs : Array Value} {t : TypeId} {fr : Nat × Nat} (h : w.heap[g]? = some (.cells cs t fr)) (i : Nat) : w.cell? ⟨g, i, none⟩ = cs[i]? := by simp [World.cell?, h]
theorem zaz {w : World} {g : Nat} {cs : Array Value} {t : TypeId} (h : w.heap[g]? = some (.cells cs t (0, 0))) (i : Nat) : w.frozen? ⟨g, i, none⟩ = false := by simp [World.frozen?, h]
theorem zap (w : World) (o : Obj) : (w.alloc o).heap[w.heap.size]? = some o := heap_alloc_last w o
theorem zbd (w : World) (o : Obj) : (w.alloc o).heap.size = w.heap.size + 1 := by simp
theorem zch {α : Type} {l : List α} {i : Nat} (h : i < l.length) : ∃ a, l[i]? = some a := ⟨_, List.getElem?_eq_getElem h⟩
theorem sg_at {w : World} {B : Nat} {e : TypeId} {v : Value} {l : List Sg} (h : w.ownsRow B e 3 v l.length (l.flatMap sgV)) {i : Nat} {x : Sg} (hx : l[i]? = some x) :
  ∃ g cap, v = .slice (some ⟨g, 0, none⟩) l.length cap /\ B <= g /\ g < w.heap.size /\ w.cell? ⟨g, i * 3, none⟩ = some (int i64 x.t) /\ w.cell? ⟨g, i * 3 + 1, none⟩ = some (int i64 x.ser) /\ w.cell? ⟨g, i * 3 + 2, none⟩ = some (int i64 x.win) := by
 have hil : i < l.length := (List.getElem?_eq_some_iff.1 hx).1
 obtain ⟨g, cap, hv, hb, hlt⟩ := h.form (by omega)
 rw [hv] at h
 refine ⟨g, cap, hv, hb, hlt, ?_, ?_, ?_⟩
 ·rw [h.cellAt _ (by omega)]; exact zek (f := sgV) sgV_len l i x 0 hx (by omega)
 ·rw [h.cellAt _ (by omega)]; exact zek (f := sgV) sgV_len l i x 1 hx (by omega)
 ·rw [h.cellAt _ (by omega)]; exact zek (f := sgV) sgV_len l i x 2 hx (by omega)
theorem nm_at {w : World} {B : Nat} {e : TypeId} {v : Value} {l : List Nm} (h : w.ownsRow B e 3 v l.length (l.flatMap nmV)) {i : Nat} {x : Nm} (hx : l[i]? = some x) :
  ∃ g cap, v = .slice (some ⟨g, 0, none⟩) l.length cap /\ B <= g /\ g < w.heap.size /\ w.cell? ⟨g, i * 3, none⟩ = some (int i64 x.ser) /\ w.cell? ⟨g, i * 3 + 1, none⟩ = some (int i64 x.tm) /\ w.cell? ⟨g, i * 3 + 2, none⟩ = some (.int .i32 x.val) := by
 have hil : i < l.length := (List.getElem?_eq_some_iff.1 hx).1
 obtain ⟨g, cap, hv, hb, hlt⟩ := h.form (by omega)
 rw [hv] at h
 refine ⟨g, cap, hv, hb, hlt, ?_, ?_, ?_⟩
 ·rw [h.cellAt _ (by omega)]; exact zek (f := nmV) nmV_len l i x 0 hx (by omega)
 ·rw [h.cellAt _ (by omega)]; exact zek (f := nmV) nmV_len l i x 1 hx (by omega)
 ·rw [h.cellAt _ (by omega)]; exact zek (f := nmV) nmV_len l i x 2 hx (by omega)
theorem zah {w : World} {B : Nat} {e : TypeId} {size : Nat} {v : Value} {n : Nat} {xs : List Value} (h : w.ownsRow B e size v n xs) : ∃ a cap, v = .slice a n cap := by
 rcases h.2 with ⟨h1, h2⟩ | ⟨g, cap, _, h1, _⟩
 ·exact ⟨none, 0, by rw [h1, h2]⟩
 ·exact ⟨_, cap, h1⟩
theorem zcc {w w' : World} {B : Nat} {e : TypeId} {size : Nat} {v : Value} {n : Nat} {xs : List Value} (h : w.ownsRow B e size v n xs) (hb : Below w.heap.size w w') : w'.ownsRow B e size v n xs :=
 zae h (zan.of_below (f := fun _ => False) hb) (fun _ _ hh => hh)
def sgVal (s : Sg) : Value := .agg #[int i64 s.t, int i64 s.ser, int i64 s.win]
theorem sg_ne {x s : Sg} (h : ¬ x = s) : (x.t == s.t) = false \/ ((x.t == s.t) = true /\ (x.ser == s.ser) = false) \/ ((x.t == s.t) = true /\ (x.ser == s.ser) = true /\ (x.win == s.win) = false) := by
 by_cases h1 : x.t = s.t
 ·by_cases h2 : x.ser = s.ser
  ·by_cases h3 : x.win = s.win
   ·exact absurd (by cases x; cases s; simp_all) h
   ·exact .inr (.inr (by simp [h1, h2, h3]))
  ·exact .inr (.inl (by simp [h1, h2]))
 ·exact .inl (by simp [h1])
def memB (s : Sg) (l : List Sg) : Bool := decide (s ∈ l)
theorem memB_true {s : Sg} {l : List Sg} (h : s ∈ l) : memB s l = true := by simp [memB, h]
theorem memB_false {s : Sg} {l : List Sg} (h : ¬ s ∈ l) : memB s l = false := by simp [memB, h]
theorem not_mem_of {s : Sg} {l : List Sg} (h : ∀ j x, j < l.length -> l[j]? = some x -> x ≠ s) : ¬ s ∈ l := fun hm => by
 obtain ⟨j, hj⟩ := List.getElem?_of_mem hm
 exact h j s (List.getElem?_eq_some_iff.1 hj).1 hj rfl
set_option maxHeartbeats 1000000 in
theorem zca (B : Nat) (l : List Sg) (v : Value) (s : Sg) (w : World) (hl : l.length <= 1099511627776) (h : w.ownsRow B 232 3 v l.length (l.flatMap sgV)) :
  Calls Tryz.prog 159 #[v, .agg #[int i64 s.t, int i64 s.ser, int i64 s.win]] w fun e w' => e = .returned (.bool (memB s l)) /\ Below w.heap.size w w' := by
 obtain ⟨a, cap, hv⟩ := zah h
 subst hv
 go_enter Tryz.func159, Tryz.ntmps159
 go_wp2_with fail
 go_loopw [5] (fun y wr => ∃ (k : Nat), k <= l.length /\ y = int i64 k /\ (∀ j x, j < k -> l[j]? = some x -> x ≠ s) /\ Below (w.heap.size + 1) (w.alloc (.cells #[int i64 s.t, int i64 s.ser, int i64 s.win] 232)) wr) (fun y _ => l.length - (intOf y).toNat)
 case atStart => exact ⟨0, Nat.zero_le _, rfl, fun j x hj => absurd hj (Nat.not_lt_zero _), Below.refl _ _⟩
 case round =>
  obtain ⟨k, hk, rfl, ha, hb⟩ := hrel
  have HA := zab ha
  clear ha
  have hbw : Below w.heap.size w wr := ((Below.refl _ _).alloc (Nat.le_refl _) _).trans (hb.mono (by omega))
  have hsz : w.heap.size < wr.heap.size := by have := hb.size; simp at this; omega
  have hbox := (hb.block w.heap.size (by omega)).trans (zap w _)
  have s0 : wr.cell? ⟨w.heap.size, 0, none⟩ = some (int i64 s.t) := by rw [zac hbox]; rfl
  have s1 : wr.cell? ⟨w.heap.size, 1, none⟩ = some (int i64 s.ser) := by rw [zac hbox]; rfl
  have s2 : wr.cell? ⟨w.heap.size, 2, none⟩ = some (int i64 s.win) := by rw [zac hbox]; rfl
  clear hbox
  by_cases hlt : k < l.length
  ·have h' := zcc h hbw
   obtain ⟨x, hx⟩ := zch hlt
   obtain ⟨g, cap', hv, _, hgz, h1, h2, h3⟩ := sg_at h' hx
   cases hv
   have HX := zab hx
   have hkn : (k : Int) < l.length := by omega
   clear hx h h'
   have hne : Nonempty (zaf wr.heap.size wr) := zaf.some _ _
   have hlc := fun (u : zaf wr.heap.size wr) b o h => u.cell b o h
   by_cases hxs : x = s
   ·subst hxs
    go_wp2_with fail
    refine zad wr.heap.size (by kernel_rfl) (by kernel_rfl) ?_
    repeat (go_big_quiet_step (fail))
    refine wpQuiet_nil ?_
    rintro ⟨w1, hb1⟩
    clear hlc hne
    dsimp only
    go_wp2_with fail
    go_ret
    exact ⟨zaq (memB_true (List.mem_of_getElem? (ud HX))).symm, hbw.trans (hb1.mono (by omega))⟩
   ·have hrel' : ∀ (w1 : World), Below wr.heap.size wr w1 -> ∃ (k' : Nat), k' <= l.length /\ int i64 ((k : Int) + 1) = int i64 k' /\ (∀ j x, j < k' -> l[j]? = some x -> x ≠ s) /\ Below (w.heap.size + 1) (w.alloc (.cells #[int i64 s.t, int i64 s.ser, int i64 s.win] 232)) w1 := fun w1 hb1 => by
     refine ⟨k + 1, by omega, by go_num, fun j y hj hj' => ?_, hb.trans (hb1.mono (by omega))⟩
     by_cases e : j = k
     ·subst e; rw [ud HX] at hj'; cases hj'; exact hxs
     ·exact ud HA j y (by omega) hj'
    have HREL := zab hrel'
    clear hrel'
    have hd := sg_ne hxs
    clear hxs
    rcases hd with hd | ⟨hd0, hd⟩ | ⟨hd0, hd1, hd⟩
    all_goals
     go_wp2_with fail
     refine zad wr.heap.size (by kernel_rfl) (by kernel_rfl) ?_
     repeat (go_big_quiet_step (fail))
     refine wpQuiet_nil ?_
     rintro ⟨w1, hb1⟩
     clear hlc hne
     dsimp only
     go_wp2_with fail
     go_roundw
     case rel => exact ud HREL w1 hb1
     case measure => simp [intOf]; omega
  ·go_wp2_with fail
   go_ret
   exact ⟨zaq (memB_false (not_mem_of (fun j x hj hx => ud HA j x (by omega) hx))).symm, hbw⟩
end Go.Proofs.YtpbimdkclnekeaaGreat
