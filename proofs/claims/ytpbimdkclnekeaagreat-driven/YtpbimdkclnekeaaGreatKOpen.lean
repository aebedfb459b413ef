import Derived.Test.YtpbimdkclnekeaaGreatKLater
import Derived.ProofKit
import Derived.OpenShut
import Derived.Deep.Slices
import Derived.Deep.Strs
import Derived.SizedLaws
import Derived.Test.YtpbimdkclnekeaaGreatKKit0
import Derived.Deep.WholeRow

namespace Go.Proofs.YtpbimdkclnekeaaGreat
open Go.RowKit Go.ChangeShapes Go.WideShapes
theorem Tryz.cellsConfig : Tryz.prog.cellsOf 27 = 7 := by kernel_rfl
theorem Tryz.cellsTier : Tryz.prog.cellsOf 66 = 3 := by kernel_rfl
theorem Tryz.cellsInt : Tryz.prog.cellsOf 3 = 1 := by kernel_rfl
theorem Tryz.cellsTiers : Tryz.prog.cellsOf 25 = 1 := by kernel_rfl
theorem Tryz.bytesTier : Tryz.prog.bytesOf 66 = 24 := by kernel_rfl
section
variable {H : Type} {enc : TypeId × Value -> H} {w : World} {held : Bool}
theorem zer (b off j : Nat) : (⟨b, off, none⟩ : Addr).add j = ⟨b, off + j, none⟩ := by unfold Addr.add; split <;> simp_all
end
end Go.Proofs.YtpbimdkclnekeaaGreat

namespace Go.Proofs.YtpbimdkclnekeaaGreat
open Value (int)
open IntKind (i64)
open Go.RowKit
set_option linter.unusedVariables false
theorem zab {w : World} {g : Nat} {cs : Array Value} {t : TypeId} {fr : Nat × Nat} (h : w.heap[g]? = some (.cells cs t fr)) (i : Nat) : w.cell? ⟨g, i, none⟩ = cs[i]? := by simp [World.cell?, h]
theorem zax {w : World} {g : Nat} {cs : Array Value} {t : TypeId} (h : w.heap[g]? = some (.cells cs t (0, 0))) (i : Nat) : w.frozen? ⟨g, i, none⟩ = false := by simp [World.frozen?, h]
theorem zag (w : World) (o : Obj) : (w.alloc o).heap[w.heap.size]? = some o := heap_alloc_last w o
theorem zbm (w : World) (o : Obj) : (w.alloc o).heap.size = w.heap.size + 1 := by simp
theorem rget_of_lt {α : Type} {l : List α} {i : Nat} (h : i < l.length) : ∃ a, l[i]? = some a := ⟨_, List.getElem?_eq_getElem h⟩
theorem nm_at {w : World} {B : Nat} {e : TypeId} {v : Value} {l : List Nm} (h : w.ownsRow B e 3 v l.length (l.flatMap nmV)) {i : Nat} {x : Nm} (hx : l[i]? = some x) :
  ∃ g cap, v = .slice (some ⟨g, 0, none⟩) l.length cap /\ B <= g /\ g < w.heap.size /\ w.cell? ⟨g, i * 3, none⟩ = some (int i64 x.ser) /\ w.cell? ⟨g, i * 3 + 1, none⟩ = some (int i64 x.tm) /\ w.cell? ⟨g, i * 3 + 2, none⟩ = some (.int .i32 x.val) := by
 have hil : i < l.length := (List.getElem?_eq_some_iff.1 hx).1
 obtain ⟨g, cap, hv, hb, hlt⟩ := h.form (by omega)
 rw [hv] at h
 refine ⟨g, cap, hv, hb, hlt, ?_, ?_, ?_⟩
 ·rw [h.cellAt _ (by omega)]; exact flat_get (f := nmV) nmV_len l i x 0 hx (by omega)
 ·rw [h.cellAt _ (by omega)]; exact flat_get (f := nmV) nmV_len l i x 1 hx (by omega)
 ·rw [h.cellAt _ (by omega)]; exact flat_get (f := nmV) nmV_len l i x 2 hx (by omega)
theorem zbt {w : World} {B : Nat} {e : TypeId} {size : Nat} {v : Value} {n : Nat} {xs : List Value} (h : w.ownsRow B e size v n xs) : ∃ a cap, v = .slice a n cap := by
 rcases h.2 with ⟨h1, h2⟩ | ⟨g, cap, _, h1, _⟩
 ·exact ⟨none, 0, by rw [h1, h2]⟩
 ·exact ⟨_, cap, h1⟩
theorem zff {w w' : World} {B : Nat} {e : TypeId} {size : Nat} {v : Value} {n : Nat} {xs : List Value} (h : w.ownsRow B e size v n xs) (hb : Below w.heap.size w w') : w'.ownsRow B e size v n xs :=
 zah h (zaj.of_below (f := fun _ => False) hb) (fun _ _ hh => hh)
def sgVal (s : Sg) : Value := .agg #[int i64 s.t, int i64 s.ser, int i64 s.win]
end Go.Proofs.YtpbimdkclnekeaaGreat

namespace Go.Proofs.YtpbimdkclnekeaaGreat
open Value (int)
open IntKind (i64)
open Go.RowKit Go.ChangeShapes Go.WideShapes
set_option linter.unusedVariables false
theorem Tryz.cellsStep : Tryz.prog.cellsOf 33 = 4 := by kernel_rfl
theorem Tryz.cellsInt32K : Tryz.prog.cellsOf 21 = 1 := by kernel_rfl
theorem Tryz.bytesStep : Tryz.prog.bytesOf 33 = 32 := by kernel_rfl
theorem kwf_i64 {k : Int} (h : (Lit.int .i64 k).wf = true) : -9223372036854775808 <= k /\ k <= 9223372036854775807 := by
 have e1 : IntKind.min .i64 = -9223372036854775808 := by decide
 have e2 : IntKind.max .i64 = 9223372036854775807 := by decide
 simp [Lit.wf] at h; omega
theorem kwf_i32 {k : Int} (h : (Lit.int .i32 k).wf = true) : -2147483648 <= k /\ k <= 2147483647 := by
 have e1 : IntKind.min .i32 = -2147483648 := by decide
 have e2 : IntKind.max .i32 = 2147483647 := by decide
 simp [Lit.wf] at h; omega
structure KStep where
 kd : Int
 a : Int
 b : Int
 v : Int
instance : Inhabited KStep := ⟨⟨0, 0, 0, 0⟩⟩
structure KStep.fits (o : KStep) : Prop where
 a : -9223372036854775808 <= o.a /\ o.a <= 9223372036854775807
 b : -9223372036854775808 <= o.b /\ o.b <= 9223372036854775807
 v : -2147483648 <= o.v /\ o.v <= 2147483647
def KS (w : World) (a : Option Addr) (n : Nat) (G : Nat -> KStep) : Prop :=
 0 < n -> ∃ b off, a = some ⟨b, off, none⟩ /\ b < w.heap.size /\ ∀ i, i < n -> w.cell? ⟨b, off + i * 4, none⟩ = some (int i64 (G i).kd) /\ w.cell? ⟨b, off + i * 4 + 1, none⟩ = some (int i64 (G i).a) /\ w.cell? ⟨b, off + i * 4 + 2, none⟩ = some (int i64 (G i).b) /\ w.cell? ⟨b, off + i * 4 + 3, none⟩ = some (.int .i32 (G i).v)
section
variable {H : Type} {enc : TypeId × Value -> H} {w : World} {held : Bool}
set_option maxRecDepth 20000 in
theorem kopen_tier {fuel : Nat} {cs : List Value} {x : DataW H × List MemPlace} (h : DataW.trod enc Tryz.prog w 0 (fun _ => true) held fuel 66 cs = some x) :
  ∃ f wd k : Int, cs = [int i64 f, int i64 wd, int i64 k] /\ (-9223372036854775808 <= f /\ f <= 9223372036854775807) /\ (-9223372036854775808 <= wd /\ wd <= 9223372036854775807) /\ (-9223372036854775808 <= k /\ k <= 9223372036854775807) := by
 obtain ⟨xs, m, _, rfl, hl, hlen, hf⟩ := DataW.trod_struct Tryz.underlying66 h
 rw [Tryz.cellsTier] at hl
 match cs, hl with
 | [c0, c1, c2], _ =>
  match xs, hlen with
  | [y0, y1, y2], _ =>
   have q0 : DataW.trod enc Tryz.prog w 0 (fun _ => true) held m 3 [c0] = some y0 := by have h : DataW.trod enc Tryz.prog w 0 (fun _ => true) held m 3 (([c0, c1, c2].drop 0).take (Tryz.prog.cellsOf 3)) = some y0 := hf 0 _ rfl; rw [Tryz.cellsInt] at h; exact h
   have q1 : DataW.trod enc Tryz.prog w 0 (fun _ => true) held m 3 [c1] = some y1 := by have h : DataW.trod enc Tryz.prog w 0 (fun _ => true) held m 3 (([c0, c1, c2].drop 1).take (Tryz.prog.cellsOf 3)) = some y1 := hf 1 _ rfl; rw [Tryz.cellsInt] at h; exact h
   have q2 : DataW.trod enc Tryz.prog w 0 (fun _ => true) held m 3 [c2] = some y2 := by have h : DataW.trod enc Tryz.prog w 0 (fun _ => true) held m 3 (([c0, c1, c2].drop 2).take (Tryz.prog.cellsOf 3)) = some y2 := hf 2 _ rfl; rw [Tryz.cellsInt] at h; exact h
   obtain ⟨a0, e0, _, w0⟩ := DataW.trod_int Tryz.underlying3 q0
   obtain ⟨a1, e1, _, w1⟩ := DataW.trod_int Tryz.underlying3 q1
   obtain ⟨a2, e2, _, w2⟩ := DataW.trod_int Tryz.underlying3 q2
   simp at e0 e1 e2
   exact ⟨a0, a1, a2, by rw [e0, e1, e2], kwf_i64 w0, kwf_i64 w1, kwf_i64 w2⟩
theorem kopen_tiers {fuel : Nat} {cs : List Value} {x : DataW H × List MemPlace} (h : DataW.trod enc Tryz.prog w 0 (fun _ => true) held fuel 25 cs = some x) :
  ∃ (a : Option Addr) (n cap : Nat) (F W K : Nat -> Int), cs = [.slice a n cap] /\ TS w a n F W K /\ ((∀ i, i < n -> (-9223372036854775808 <= F i /\ F i <= 9223372036854775807)) /\ (∀ i, i < n -> (-9223372036854775808 <= W i /\ W i <= 9223372036854775807)) /\ (∀ i, i < n -> (-9223372036854775808 <= K i /\ K i <= 9223372036854775807))) /\ ((n = 0 /\ x.1 = .nil) \/ ∃ elems spare, x.1 = .slice elems spare /\ elems.length = n) := by
 rcases Go.Deep.open_slice Tryz.underlying25 h with ⟨rfl, rfl⟩ | ⟨a, len, cap, m, n, D, Pl, rfl, hb, hl, hm, hmm, rfl, hx⟩
 ·exact ⟨none, 0, 0, fun _ => 0, fun _ => 0, fun _ => 0, rfl, fun h0 => absurd h0 (Nat.lt_irrefl _), ⟨fun i hi => absurd hi (Nat.not_lt_zero _), fun i hi => absurd hi (Nat.not_lt_zero _), fun i hi => absurd hi (Nat.not_lt_zero _)⟩, .inl ⟨rfl, rfl⟩⟩
 ·rw [Tryz.cellsTier] at hx
  obtain ⟨G, hG⟩ := Go.Deep.choose_lt (α := Int × Int × Int) (n := len) (p := fun i g => w.cells? 0 (a.add (i * 3)) 3 = some [int i64 g.1, int i64 g.2.1, int i64 g.2.2] /\ (-9223372036854775808 <= g.1 /\ g.1 <= 9223372036854775807) /\ (-9223372036854775808 <= g.2.1 /\ g.2.1 <= 9223372036854775807) /\ (-9223372036854775808 <= g.2.2 /\ g.2.2 <= 9223372036854775807)) (fun i hi => by
   obtain ⟨cs', h1, h2⟩ := hx i (by rw [hmm]; simp; omega)
   obtain ⟨f, wd, k, rfl, h3⟩ := kopen_tier h2
   exact ⟨(f, wd, k), h1, h3⟩)
  refine ⟨some a, len, cap, fun i => (G i).1, fun i => (G i).2.1, fun i => (G i).2.2, rfl, fun h0 => ?_, ⟨fun i hi => (hG i hi).2.1, fun i hi => (hG i hi).2.2.1, fun i hi => (hG i hi).2.2.2⟩, .inr ⟨_, _, rfl, by simp⟩⟩
  obtain ⟨b, off, spot⟩ := a
  have c0 := (World.cells?_some (hG 0 h0).1).2.2 0 (by omega)
  have hspot : spot = none := by simpa [Addr.add] using World.cell?_spot (c0.trans (by rfl))
  subst hspot
  have hbz : b < w.heap.size := by
   have : w.cell? ⟨b, off, none⟩ = some (int i64 (G 0).1) := by simpa [Addr.add] using c0
   by_cases hc : b < w.heap.size
   ·exact hc
   ·simp [World.cell?, Array.getElem?_eq_none (show w.heap.size <= b by omega)] at this
  refine ⟨b, off, rfl, hbz, fun i hi => ?_⟩
  have e := (World.cells?_some (hG i hi).1).2.2
  refine ⟨?_, ?_, ?_⟩
  ·have := e 0 (by omega); simpa [zer] using this
  ·have := e 1 (by omega); simpa [zer] using this
  ·have := e 2 (by omega); simpa [zer] using this
set_option maxRecDepth 20000 in
theorem kopen_config {fuel : Nat} {cs : List Value} {x : DataW H × List MemPlace} (h : DataW.trod enc Tryz.prog w 0 (fun _ => true) held fuel 27 cs = some x) :
  ∃ (s le la wi ke qu : Int) (a : Option Addr) (n cap : Nat) (F W K : Nat -> Int), cs = [int i64 s, int i64 le, int i64 la, int i64 wi, int i64 ke, int i64 qu, .slice a n cap] /\ TS w a n F W K /\ ((-9223372036854775808 <= s /\ s <= 9223372036854775807) /\ (-9223372036854775808 <= le /\ le <= 9223372036854775807) /\ (-9223372036854775808 <= la /\ la <= 9223372036854775807) /\ (-9223372036854775808 <= wi /\ wi <= 9223372036854775807) /\ (-9223372036854775808 <= ke /\ ke <= 9223372036854775807) /\ (-9223372036854775808 <= qu /\ qu <= 9223372036854775807)) /\ ((∀ i, i < n -> (-9223372036854775808 <= F i /\ F i <= 9223372036854775807)) /\ (∀ i, i < n -> (-9223372036854775808 <= W i /\ W i <= 9223372036854775807)) /\ (∀ i, i < n -> (-9223372036854775808 <= K i /\ K i <= 9223372036854775807))) /\
   ((∀ y ∈ x.1.weights Tryz.prog 27, y <= reachBytes) -> 24 * n <= reachBytes) := by
 obtain ⟨xs, m, _, rfl, hl, hlen, hf⟩ := DataW.trod_struct Tryz.underlying27 h
 rw [Tryz.cellsConfig] at hl
 match cs, hl with
 | [c0, c1, c2, c3, c4, c5, c6], _ =>
  match xs, hlen with
  | [y0, y1, y2, y3, y4, y5, y6], _ =>
   have q0 : DataW.trod enc Tryz.prog w 0 (fun _ => true) held m 3 [c0] = some y0 := by have h : DataW.trod enc Tryz.prog w 0 (fun _ => true) held m 3 (([c0, c1, c2, c3, c4, c5, c6].drop 0).take (Tryz.prog.cellsOf 3)) = some y0 := hf 0 _ rfl; rw [Tryz.cellsInt] at h; exact h
   have q1 : DataW.trod enc Tryz.prog w 0 (fun _ => true) held m 3 [c1] = some y1 := by have h : DataW.trod enc Tryz.prog w 0 (fun _ => true) held m 3 (([c0, c1, c2, c3, c4, c5, c6].drop 1).take (Tryz.prog.cellsOf 3)) = some y1 := hf 1 _ rfl; rw [Tryz.cellsInt] at h; exact h
   have q2 : DataW.trod enc Tryz.prog w 0 (fun _ => true) held m 3 [c2] = some y2 := by have h : DataW.trod enc Tryz.prog w 0 (fun _ => true) held m 3 (([c0, c1, c2, c3, c4, c5, c6].drop 2).take (Tryz.prog.cellsOf 3)) = some y2 := hf 2 _ rfl; rw [Tryz.cellsInt] at h; exact h
   have q3 : DataW.trod enc Tryz.prog w 0 (fun _ => true) held m 3 [c3] = some y3 := by have h : DataW.trod enc Tryz.prog w 0 (fun _ => true) held m 3 (([c0, c1, c2, c3, c4, c5, c6].drop 3).take (Tryz.prog.cellsOf 3)) = some y3 := hf 3 _ rfl; rw [Tryz.cellsInt] at h; exact h
   have q4 : DataW.trod enc Tryz.prog w 0 (fun _ => true) held m 3 [c4] = some y4 := by have h : DataW.trod enc Tryz.prog w 0 (fun _ => true) held m 3 (([c0, c1, c2, c3, c4, c5, c6].drop 4).take (Tryz.prog.cellsOf 3)) = some y4 := hf 4 _ rfl; rw [Tryz.cellsInt] at h; exact h
   have q5 : DataW.trod enc Tryz.prog w 0 (fun _ => true) held m 3 [c5] = some y5 := by have h : DataW.trod enc Tryz.prog w 0 (fun _ => true) held m 3 (([c0, c1, c2, c3, c4, c5, c6].drop 5).take (Tryz.prog.cellsOf 3)) = some y5 := hf 5 _ rfl; rw [Tryz.cellsInt] at h; exact h
   have q6 : DataW.trod enc Tryz.prog w 0 (fun _ => true) held m 25 [c6] = some y6 := by have h : DataW.trod enc Tryz.prog w 0 (fun _ => true) held m 25 (([c0, c1, c2, c3, c4, c5, c6].drop 6).take (Tryz.prog.cellsOf 25)) = some y6 := hf 6 _ rfl; rw [Tryz.cellsTiers] at h; exact h
   obtain ⟨a0, e0, _, w0⟩ := DataW.trod_int Tryz.underlying3 q0
   obtain ⟨a1, e1, _, w1⟩ := DataW.trod_int Tryz.underlying3 q1
   obtain ⟨a2, e2, _, w2⟩ := DataW.trod_int Tryz.underlying3 q2
   obtain ⟨a3, e3, _, w3⟩ := DataW.trod_int Tryz.underlying3 q3
   obtain ⟨a4, e4, _, w4⟩ := DataW.trod_int Tryz.underlying3 q4
   obtain ⟨a5, e5, _, w5⟩ := DataW.trod_int Tryz.underlying3 q5
   obtain ⟨a, n, cap, F, W, K, e6, hts, hbd, hd⟩ := kopen_tiers q6
   simp at e0 e1 e2 e3 e4 e5 e6
   refine ⟨a0, a1, a2, a3, a4, a5, a, n, cap, F, W, K, by rw [e0, e1, e2, e3, e4, e5, e6], hts, ⟨kwf_i64 w0, kwf_i64 w1, kwf_i64 w2, kwf_i64 w3, kwf_i64 w4, kwf_i64 w5⟩, hbd, fun hw => ?_⟩
   rcases hd with ⟨rfl, _⟩ | ⟨elems, spare, hd, hel⟩
   ·simp
   ·have hh := hw ((elems.length + spare.length) * 24) (by
     refine (show ∀ n ∈ y6.1.weights Tryz.prog 25, n ∈ _ from fun n hn => ?_) _ (by rw [hd]; simp [DataW.weights, Tryz.underlying25, Tryz.bytesTier])
     simp only [DataW.weights, Tryz.underlying27]
     exact DataW.weights_mem_each (j := 6) rfl rfl n hn)
    rw [hel] at hh
    omega
set_option maxRecDepth 20000 in
theorem kopen_step {fuel : Nat} {cs : List Value} {x : DataW H × List MemPlace} (h : DataW.trod enc Tryz.prog w 0 (fun _ => true) held fuel 33 cs = some x) :
  ∃ o : KStep, cs = [int i64 o.kd, int i64 o.a, int i64 o.b, .int .i32 o.v] /\ o.fits := by
 obtain ⟨xs, m, _, rfl, hl, hlen, hf⟩ := DataW.trod_struct Tryz.underlying33 h
 rw [Tryz.cellsStep] at hl
 match cs, hl with
 | [c0, c1, c2, c3], _ =>
  match xs, hlen with
  | [y0, y1, y2, y3], _ =>
   have q0 : DataW.trod enc Tryz.prog w 0 (fun _ => true) held m 3 [c0] = some y0 := by have h : DataW.trod enc Tryz.prog w 0 (fun _ => true) held m 3 (([c0, c1, c2, c3].drop 0).take (Tryz.prog.cellsOf 3)) = some y0 := hf 0 _ rfl; rw [Tryz.cellsInt] at h; exact h
   have q1 : DataW.trod enc Tryz.prog w 0 (fun _ => true) held m 3 [c1] = some y1 := by have h : DataW.trod enc Tryz.prog w 0 (fun _ => true) held m 3 (([c0, c1, c2, c3].drop 1).take (Tryz.prog.cellsOf 3)) = some y1 := hf 1 _ rfl; rw [Tryz.cellsInt] at h; exact h
   have q2 : DataW.trod enc Tryz.prog w 0 (fun _ => true) held m 3 [c2] = some y2 := by have h : DataW.trod enc Tryz.prog w 0 (fun _ => true) held m 3 (([c0, c1, c2, c3].drop 2).take (Tryz.prog.cellsOf 3)) = some y2 := hf 2 _ rfl; rw [Tryz.cellsInt] at h; exact h
   have q3 : DataW.trod enc Tryz.prog w 0 (fun _ => true) held m 21 [c3] = some y3 := by have h : DataW.trod enc Tryz.prog w 0 (fun _ => true) held m 21 (([c0, c1, c2, c3].drop 3).take (Tryz.prog.cellsOf 21)) = some y3 := hf 3 _ rfl; rw [Tryz.cellsInt32K] at h; exact h
   obtain ⟨a0, e0, _, w0⟩ := DataW.trod_int Tryz.underlying3 q0
   obtain ⟨a1, e1, _, w1⟩ := DataW.trod_int Tryz.underlying3 q1
   obtain ⟨a2, e2, _, w2⟩ := DataW.trod_int Tryz.underlying3 q2
   obtain ⟨a3, e3, _, w3⟩ := DataW.trod_int Tryz.underlying21 q3
   simp at e0 e1 e2 e3
   exact ⟨⟨a0, a1, a2, a3⟩, by rw [e0, e1, e2, e3], ⟨kwf_i64 w1, kwf_i64 w2, kwf_i32 w3⟩⟩
theorem kopen_steps {fuel : Nat} {cs : List Value} {x : DataW H × List MemPlace} (h : DataW.trod enc Tryz.prog w 0 (fun _ => true) held fuel 28 cs = some x) (hw : ∀ y ∈ x.1.weights Tryz.prog 28, y <= reachBytes) :
  ∃ (a : Option Addr) (n cap : Nat) (G : Nat -> KStep), cs = [.slice a n cap] /\ KS w a n G /\ n < 4398046511104 /\ ∀ i, i < n -> (G i).fits := by
 rcases Go.Deep.open_slice Tryz.underlying28 h with ⟨rfl, rfl⟩ | ⟨a, len, cap, m, n, D, Pl, rfl, hb, hl, hm, hmm, rfl, hx⟩
 ·exact ⟨none, 0, 0, fun _ => ⟨0, 0, 0, 0⟩, rfl, fun h0 => absurd h0 (Nat.lt_irrefl _), by omega, fun i hi => absurd hi (Nat.not_lt_zero _)⟩
 ·rw [Tryz.cellsStep] at hx
  obtain ⟨G, hG⟩ := Go.Deep.choose_lt (α := KStep) (n := len) (p := fun i g => w.cells? 0 (a.add (i * 4)) 4 = some [int i64 g.kd, int i64 g.a, int i64 g.b, .int .i32 g.v] /\ g.fits) (fun i hi => by
   obtain ⟨cs', h1, h2⟩ := hx i (by rw [hmm]; simp; omega)
   obtain ⟨o, rfl, h3⟩ := kopen_step h2
   exact ⟨o, h1, h3⟩)
  simp only [DataW.weights, Tryz.underlying28, Tryz.bytesStep] at hw
  have hlen : len < 4398046511104 := by
   have := hw _ (List.mem_cons_self ..)
   simp only [reachBytes, List.length_map, List.length_range] at this
   omega
  refine ⟨some a, len, cap, G, rfl, fun h0 => ?_, hlen, fun i hi => (hG i hi).2⟩
  obtain ⟨b, off, spot⟩ := a
  have c0 := (World.cells?_some (hG 0 h0).1).2.2 0 (by omega)
  have hspot : spot = none := by simpa [Addr.add] using World.cell?_spot (c0.trans (by rfl))
  subst hspot
  have hbz : b < w.heap.size := by
   have : w.cell? ⟨b, off, none⟩ = some (int i64 (G 0).kd) := by simpa [Addr.add] using c0
   by_cases hc : b < w.heap.size
   ·exact hc
   ·simp [World.cell?, Array.getElem?_eq_none (show w.heap.size <= b by omega)] at this
  refine ⟨b, off, rfl, hbz, fun i hi => ?_⟩
  have e := (World.cells?_some (hG i hi).1).2.2
  refine ⟨?_, ?_, ?_, ?_⟩
  ·have := e 0 (by omega); simpa [zer] using this
  ·have := e 1 (by omega); simpa [zer] using this
  ·have := e 2 (by omega); simpa [zer] using this
  ·have := e 3 (by omega); simpa [zer] using this
end
end Go.Proofs.YtpbimdkclnekeaaGreat
