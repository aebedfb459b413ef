import Derived.Test.YtgadceofpbfleaaGreatQConf1
import Derived.ProofKit
import Derived.OpenShut
import Derived.Deep.Slices
import Derived.Deep.Strs
import Derived.SizedLaws
import Derived.Test.YtgadceofpbfleaaGreatQLawD

/- A configuration that came in, opened. -/
namespace Go.Proofs.YtgadceofpbfleaaGreat
open Go.RowKit Go.ChangeShapes Go.WideShapes

theorem Tryz.cellsConfig : Tryz.prog.cellsOf 35 = 7 := by kernel_rfl
theorem Tryz.cellsTier : Tryz.prog.cellsOf 32 = 3 := by kernel_rfl
theorem Tryz.cellsInt : Tryz.prog.cellsOf 3 = 1 := by kernel_rfl
theorem Tryz.cellsTiers : Tryz.prog.cellsOf 33 = 1 := by kernel_rfl
theorem Tryz.bytesTier : Tryz.prog.bytesOf 32 = 24 := by kernel_rfl

section
variable {H : Type} {enc : TypeId × Value → H} {w : World} {held : Bool}

set_option maxRecDepth 20000 in
theorem open_tier {fuel : Nat} {cs : List Value} {x : DataW H × List MemPlace} (h : DataW.trod enc Tryz.prog w 0 (fun _ => true) held fuel 32 cs = some x) : ∃ f wd k : Int, cs = [.int .i64 f, .int .i64 wd, .int .i64 k] := by
  obtain ⟨xs, m, _, rfl, hl, hlen, hf⟩ := DataW.trod_struct Tryz.underlying32 h
  rw [Tryz.cellsTier] at hl
  match cs, hl with
  | [c0, c1, c2], _ =>
    match xs, hlen with
    | [y0, y1, y2], _ =>
      have q0 : DataW.trod enc Tryz.prog w 0 (fun _ => true) held m 3 [c0] = some y0 := by have h : DataW.trod enc Tryz.prog w 0 (fun _ => true) held m 3 (([c0, c1, c2].drop 0).take (Tryz.prog.cellsOf 3)) = some y0 := hf 0 _ rfl; rw [Tryz.cellsInt] at h; exact h
      have q1 : DataW.trod enc Tryz.prog w 0 (fun _ => true) held m 3 [c1] = some y1 := by have h : DataW.trod enc Tryz.prog w 0 (fun _ => true) held m 3 (([c0, c1, c2].drop 1).take (Tryz.prog.cellsOf 3)) = some y1 := hf 1 _ rfl; rw [Tryz.cellsInt] at h; exact h
      have q2 : DataW.trod enc Tryz.prog w 0 (fun _ => true) held m 3 [c2] = some y2 := by have h : DataW.trod enc Tryz.prog w 0 (fun _ => true) held m 3 (([c0, c1, c2].drop 2).take (Tryz.prog.cellsOf 3)) = some y2 := hf 2 _ rfl; rw [Tryz.cellsInt] at h; exact h
      obtain ⟨a0, e0, _, _⟩ := DataW.trod_int Tryz.underlying3 q0
      obtain ⟨a1, e1, _, _⟩ := DataW.trod_int Tryz.underlying3 q1
      obtain ⟨a2, e2, _, _⟩ := DataW.trod_int Tryz.underlying3 q2
      simp at e0 e1 e2
      exact ⟨a0, a1, a2, by rw [e0, e1, e2]⟩

theorem add_of_none (b off j : Nat) : (⟨b, off, none⟩ : Addr).add j = ⟨b, off + j, none⟩ := by unfold Addr.add; split <;> simp_all

theorem open_tiers {fuel : Nat} {cs : List Value} {x : DataW H × List MemPlace} (h : DataW.trod enc Tryz.prog w 0 (fun _ => true) held fuel 33 cs = some x) :
    ∃ (a : Option Addr) (n cap : Nat) (F W K : Nat → Int), cs = [.slice a n cap] ∧ TS w a n F W K ∧ n ≤ cap ∧ ((n = 0 ∧ x.1 = .nil) ∨ ∃ elems spare, x.1 = .slice elems spare ∧ elems.length = n) := by
  rcases Go.Deep.open_slice Tryz.underlying33 h with ⟨rfl, rfl⟩ | ⟨a, len, cap, m, n, D, Pl, rfl, hb, hl, hm, hmm, rfl, hx⟩
  · exact ⟨none, 0, 0, fun _ => 0, fun _ => 0, fun _ => 0, rfl, fun h0 => absurd h0 (Nat.lt_irrefl _), Nat.le_refl _, .inl ⟨rfl, rfl⟩⟩
  · rw [Tryz.cellsTier] at hx
    obtain ⟨G, hG⟩ := Go.Deep.choose_lt (α := Int × Int × Int) (n := len) (p := fun i g => w.cells? 0 (a.add (i * 3)) 3 = some [.int .i64 g.1, .int .i64 g.2.1, .int .i64 g.2.2]) (fun i hi => by
      obtain ⟨cs', h1, h2⟩ := hx i (by rw [hmm]; simp; omega)
      obtain ⟨f, wd, k, rfl⟩ := open_tier h2
      exact ⟨(f, wd, k), h1⟩)
    refine ⟨some a, len, cap, fun i => (G i).1, fun i => (G i).2.1, fun i => (G i).2.2, rfl, fun h0 => ?_, hl, .inr ⟨_, _, rfl, by simp⟩⟩
    obtain ⟨b, off, spot⟩ := a
    have c0 := (World.cells?_some (hG 0 h0)).2.2 0 (by omega)
    have hspot : spot = none := by simpa [Addr.add] using World.cell?_spot (c0.trans (by rfl))
    subst hspot
    have hbz : b < w.heap.size := by
      have : w.cell? ⟨b, off, none⟩ = some (.int .i64 (G 0).1) := by simpa [Addr.add] using c0
      by_cases hc : b < w.heap.size
      · exact hc
      · simp [World.cell?, Array.getElem?_eq_none (show w.heap.size ≤ b by omega)] at this
    refine ⟨b, off, rfl, hbz, fun i hi => ?_⟩
    have e := (World.cells?_some (hG i hi)).2.2
    refine ⟨?_, ?_, ?_⟩
    · have := e 0 (by omega); simpa [add_of_none] using this
    · have := e 1 (by omega); simpa [add_of_none] using this
    · have := e 2 (by omega); simpa [add_of_none] using this

set_option maxRecDepth 20000 in
theorem open_config {fuel : Nat} {cs : List Value} {x : DataW H × List MemPlace} (h : DataW.trod enc Tryz.prog w 0 (fun _ => true) held fuel 35 cs = some x) :
    ∃ (s le la wi ke qu : Int) (a : Option Addr) (n cap : Nat) (F W K : Nat → Int), cs = [.int .i64 s, .int .i64 le, .int .i64 la, .int .i64 wi, .int .i64 ke, .int .i64 qu, .slice a n cap] ∧ TS w a n F W K ∧ n ≤ cap ∧
      ((∀ y ∈ x.1.weights Tryz.prog 35, y ≤ reachBytes) → 24 * n ≤ reachBytes) := by
  obtain ⟨xs, m, _, rfl, hl, hlen, hf⟩ := DataW.trod_struct Tryz.underlying35 h
  rw [Tryz.cellsConfig] at hl
  match cs, hl with
  | [c0, c1, c2, c3, c4, c5, c6], _ =>
    match xs, hlen with
    | [y0, y1, y2, y3, y4, y5, y6], _ =>
      have q0 : DataW.trod enc Tryz.prog w 0 (fun _ => true) held m 3 [c0] = some y0 := by have h : DataW.trod enc Tryz.prog w 0 (fun _ => true) held m 3 (([c0, c1, c2, c3, c4, c5, c6].drop 0).take (Tryz.prog.cellsOf 3)) = some y0 := hf 0 _ rfl; rw [Tryz.cellsInt] at h; exact h
      have q1 : DataW.trod enc Tryz.prog w 0 (fun _ => true) held m 3 [c1] = some y1 := by have h : DataW.trod enc Tryz.prog w 0 (fun _ => true) held m 3 (([c0, c1, c2, c3, c4, c5, c6].drop 1).take (Tryz.prog.cellsOf 3)) = some y1 := hf 1 _ rfl; rw [Tryz.cellsInt] at h; exact h
      have q2 : DataW.trod enc Tryz.prog w 0 (fun _ => true) held m 3 [c2] = some y2 := by have h : DataW.trod enc Tryz.prog w 0 (fun _ => true) held m 3 (([c0, c1, c2, c3, c4, c5, c6].drop 2).take (Tryz.prog.cellsOf 3)) = some y2 := hf 2 _ rfl; rw [Tryz.cellsInt] at h; exact h
      have q3 : DataW.trod enc Tryz.prog w 0 (fun _ => true) held m 3 [c3] = some y3 := by have h : DataW.trod enc Tryz.prog w 0 (fun _ => true) held m 3 (([c0, c1, c2, c3, c4, c5, c6].drop 3).take (Tryz.prog.cellsOf 3)) = some y3 := hf 3 _ rfl; rw [Tryz.cellsInt] at h; exact h
      have q4 : DataW.trod enc Tryz.prog w 0 (fun _ => true) held m 3 [c4] = some y4 := by have h : DataW.trod enc Tryz.prog w 0 (fun _ => true) held m 3 (([c0, c1, c2, c3, c4, c5, c6].drop 4).take (Tryz.prog.cellsOf 3)) = some y4 := hf 4 _ rfl; rw [Tryz.cellsInt] at h; exact h
      have q5 : DataW.trod enc Tryz.prog w 0 (fun _ => true) held m 3 [c5] = some y5 := by have h : DataW.trod enc Tryz.prog w 0 (fun _ => true) held m 3 (([c0, c1, c2, c3, c4, c5, c6].drop 5).take (Tryz.prog.cellsOf 3)) = some y5 := hf 5 _ rfl; rw [Tryz.cellsInt] at h; exact h
      have q6 : DataW.trod enc Tryz.prog w 0 (fun _ => true) held m 33 [c6] = some y6 := by have h : DataW.trod enc Tryz.prog w 0 (fun _ => true) held m 33 (([c0, c1, c2, c3, c4, c5, c6].drop 6).take (Tryz.prog.cellsOf 33)) = some y6 := hf 6 _ rfl; rw [Tryz.cellsTiers] at h; exact h
      obtain ⟨a0, e0, _, _⟩ := DataW.trod_int Tryz.underlying3 q0
      obtain ⟨a1, e1, _, _⟩ := DataW.trod_int Tryz.underlying3 q1
      obtain ⟨a2, e2, _, _⟩ := DataW.trod_int Tryz.underlying3 q2
      obtain ⟨a3, e3, _, _⟩ := DataW.trod_int Tryz.underlying3 q3
      obtain ⟨a4, e4, _, _⟩ := DataW.trod_int Tryz.underlying3 q4
      obtain ⟨a5, e5, _, _⟩ := DataW.trod_int Tryz.underlying3 q5
      obtain ⟨a, n, cap, F, W, K, e6, hts, hnc, hd⟩ := open_tiers q6
      simp at e0 e1 e2 e3 e4 e5 e6
      refine ⟨a0, a1, a2, a3, a4, a5, a, n, cap, F, W, K, by rw [e0, e1, e2, e3, e4, e5, e6], hts, hnc, fun hw => ?_⟩
      rcases hd with ⟨rfl, _⟩ | ⟨elems, spare, hd, hel⟩
      · simp
      · have hh := hw ((elems.length + spare.length) * 24) (by
          refine (show ∀ n ∈ y6.1.weights Tryz.prog 33, n ∈ _ from fun n hn => ?_) _ (by rw [hd]; simp [DataW.weights, Tryz.underlying33, Tryz.bytesTier])
          simp only [DataW.weights, Tryz.underlying35]
          exact DataW.weights_mem_each (j := 6) rfl rfl n hn)
        rw [hel] at hh
        omega
end
end Go.Proofs.YtgadceofpbfleaaGreat

/- A script that came in, opened (written by wip/mkopenop.py). -/
namespace Go.Proofs.YtgadceofpbfleaaGreat
open Go.RowKit Go.ChangeShapes Go.WideShapes
set_option linter.unusedVariables false

theorem Tryz.cellsOp : Tryz.prog.cellsOf 39 = 15 := by kernel_rfl
theorem Tryz.cellsInt32 : Tryz.prog.cellsOf 21 = 1 := by kernel_rfl
theorem Tryz.cellsToken : Tryz.prog.cellsOf 37 = 2 := by kernel_rfl
theorem Tryz.bytesOp : Tryz.prog.bytesOf 39 = 136 := by kernel_rfl

theorem wt_all {H : Type} {P : Program} {e : TypeId} : ∀ {l : List (DataW H)} {d : DataW H}, d ∈ l → ∀ y ∈ d.weights P e, y ∈ DataW.weightsAll P e l
  | [], d, h => by cases h
  | x :: r, d, h => fun y hy => by
    simp only [DataW.weightsAll, List.mem_append]
    rcases List.mem_cons.1 h with rfl | h
    · exact .inl hy
    · exact .inr (wt_all h y hy)
theorem wf_i64 {k : Int} (h : (Lit.int .i64 k).wf = true) : -9223372036854775808 ≤ k ∧ k ≤ 9223372036854775807 := by
  have e1 : IntKind.min .i64 = -9223372036854775808 := by decide
  have e2 : IntKind.max .i64 = 9223372036854775807 := by decide
  simp [Lit.wf] at h; omega
theorem wf_i32 {k : Int} (h : (Lit.int .i32 k).wf = true) : -2147483648 ≤ k ∧ k ≤ 2147483647 := by
  have e1 : IntKind.min .i32 = -2147483648 := by decide
  have e2 : IntKind.max .i32 = 2147483647 := by decide
  simp [Lit.wf] at h; omega

instance : Inhabited Ops := ⟨⟨0, 0, 0, 0, 0, 0, 0, 0, 0, 0, 0, 0, 0, 0, none, 0, 0⟩⟩

section
variable {H : Type} {enc : TypeId × Value → H} {w : World} {held : Bool}

set_option maxRecDepth 20000 in
theorem open_token {fuel : Nat} {cs : List Value} {x : DataW H × List MemPlace} (h : DataW.trod enc Tryz.prog w 0 (fun _ => true) held fuel 37 cs = some x) : ∃ e n : Int, cs = [.int .i64 e, .int .i64 n] := by
  obtain ⟨xs, m, _, rfl, hl, hlen, hf⟩ := DataW.trod_struct Tryz.underlying37 h
  rw [Tryz.cellsToken] at hl
  match cs, hl with
  | [c0, c1], _ =>
    match xs, hlen with
    | [y0, y1], _ =>
      have q0 : DataW.trod enc Tryz.prog w 0 (fun _ => true) held m 3 [c0] = some y0 := by have h : DataW.trod enc Tryz.prog w 0 (fun _ => true) held m 3 (([c0, c1].drop 0).take (Tryz.prog.cellsOf 3)) = some y0 := hf 0 _ rfl; rw [Tryz.cellsInt] at h; exact h
      have q1 : DataW.trod enc Tryz.prog w 0 (fun _ => true) held m 3 [c1] = some y1 := by have h : DataW.trod enc Tryz.prog w 0 (fun _ => true) held m 3 (([c0, c1].drop 1).take (Tryz.prog.cellsOf 3)) = some y1 := hf 1 _ rfl; rw [Tryz.cellsInt] at h; exact h
      obtain ⟨a0, e0, _, _⟩ := DataW.trod_int Tryz.underlying3 q0
      obtain ⟨a1, e1, _, _⟩ := DataW.trod_int Tryz.underlying3 q1
      simp at e0 e1
      exact ⟨a0, a1, by rw [e0, e1]⟩

set_option maxRecDepth 20000 in
theorem open_op {fuel : Nat} {cs : List Value} {x : DataW H × List MemPlace} (h : DataW.trod enc Tryz.prog w 0 (fun _ => true) held fuel 39 cs = some x) :
    ∃ (o : Ops) (T : (Nat → Int) × (Nat → Int) × (Nat → Int)), cs = [.int .i64 o.kd, .int .i64 o.on, .int .i64 o.a, .int .i64 o.b, .int .i64 o.c, .int .i32 o.v, .int .i64 o.te, .int .i64 o.tn, .int .i64 o.fs, .int .i64 o.fle, .int .i64 o.fla, .int .i64 o.fwi, .int .i64 o.fke, .int .i64 o.fqu, .slice o.fa o.fn o.fcap] ∧ TS w o.fa o.fn T.1 T.2.1 T.2.2 ∧ ((∀ y ∈ x.1.weights Tryz.prog 39, y ≤ reachBytes) → o.fits) := by
  obtain ⟨xs, m, _, rfl, hl, hlen, hf⟩ := DataW.trod_struct Tryz.underlying39 h
  rw [Tryz.cellsOp] at hl
  match cs, hl with
  | [c0, c1, c2, c3, c4, c5, c6, c7, c8, c9, c10, c11, c12, c13, c14], _ =>
    match xs, hlen with
    | [y0, y1, y2, y3, y4, y5, y6, y7], _ =>
      have q0 : DataW.trod enc Tryz.prog w 0 (fun _ => true) held m 3 [c0] = some y0 := by have h : DataW.trod enc Tryz.prog w 0 (fun _ => true) held m 3 (([c0, c1, c2, c3, c4, c5, c6, c7, c8, c9, c10, c11, c12, c13, c14].drop 0).take (Tryz.prog.cellsOf 3)) = some y0 := hf 0 _ rfl; rw [Tryz.cellsInt] at h; exact h
      have q1 : DataW.trod enc Tryz.prog w 0 (fun _ => true) held m 3 [c1] = some y1 := by have h : DataW.trod enc Tryz.prog w 0 (fun _ => true) held m 3 (([c0, c1, c2, c3, c4, c5, c6, c7, c8, c9, c10, c11, c12, c13, c14].drop 1).take (Tryz.prog.cellsOf 3)) = some y1 := hf 1 _ rfl; rw [Tryz.cellsInt] at h; exact h
      have q2 : DataW.trod enc Tryz.prog w 0 (fun _ => true) held m 3 [c2] = some y2 := by have h : DataW.trod enc Tryz.prog w 0 (fun _ => true) held m 3 (([c0, c1, c2, c3, c4, c5, c6, c7, c8, c9, c10, c11, c12, c13, c14].drop 2).take (Tryz.prog.cellsOf 3)) = some y2 := hf 2 _ rfl; rw [Tryz.cellsInt] at h; exact h
      have q3 : DataW.trod enc Tryz.prog w 0 (fun _ => true) held m 3 [c3] = some y3 := by have h : DataW.trod enc Tryz.prog w 0 (fun _ => true) held m 3 (([c0, c1, c2, c3, c4, c5, c6, c7, c8, c9, c10, c11, c12, c13, c14].drop 3).take (Tryz.prog.cellsOf 3)) = some y3 := hf 3 _ rfl; rw [Tryz.cellsInt] at h; exact h
      have q4 : DataW.trod enc Tryz.prog w 0 (fun _ => true) held m 3 [c4] = some y4 := by have h : DataW.trod enc Tryz.prog w 0 (fun _ => true) held m 3 (([c0, c1, c2, c3, c4, c5, c6, c7, c8, c9, c10, c11, c12, c13, c14].drop 4).take (Tryz.prog.cellsOf 3)) = some y4 := hf 4 _ rfl; rw [Tryz.cellsInt] at h; exact h
      have q5 : DataW.trod enc Tryz.prog w 0 (fun _ => true) held m 21 [c5] = some y5 := by have h : DataW.trod enc Tryz.prog w 0 (fun _ => true) held m 21 (([c0, c1, c2, c3, c4, c5, c6, c7, c8, c9, c10, c11, c12, c13, c14].drop 5).take (Tryz.prog.cellsOf 21)) = some y5 := hf 5 _ rfl; rw [Tryz.cellsInt32] at h; exact h
      have q6 : DataW.trod enc Tryz.prog w 0 (fun _ => true) held m 37 [c6, c7] = some y6 := by have h : DataW.trod enc Tryz.prog w 0 (fun _ => true) held m 37 (([c0, c1, c2, c3, c4, c5, c6, c7, c8, c9, c10, c11, c12, c13, c14].drop 6).take (Tryz.prog.cellsOf 37)) = some y6 := hf 6 _ rfl; rw [Tryz.cellsToken] at h; exact h
      have q7 : DataW.trod enc Tryz.prog w 0 (fun _ => true) held m 35 [c8, c9, c10, c11, c12, c13, c14] = some y7 := by have h : DataW.trod enc Tryz.prog w 0 (fun _ => true) held m 35 (([c0, c1, c2, c3, c4, c5, c6, c7, c8, c9, c10, c11, c12, c13, c14].drop 8).take (Tryz.prog.cellsOf 35)) = some y7 := hf 7 _ rfl; rw [Tryz.cellsConfig] at h; exact h
      obtain ⟨a0, e0, _, w0⟩ := DataW.trod_int Tryz.underlying3 q0
      obtain ⟨a1, e1, _, w1⟩ := DataW.trod_int Tryz.underlying3 q1
      obtain ⟨a2, e2, _, w2⟩ := DataW.trod_int Tryz.underlying3 q2
      obtain ⟨a3, e3, _, w3⟩ := DataW.trod_int Tryz.underlying3 q3
      obtain ⟨a4, e4, _, w4⟩ := DataW.trod_int Tryz.underlying3 q4
      obtain ⟨a5, e5, _, w5⟩ := DataW.trod_int Tryz.underlying21 q5
      obtain ⟨t0, t1, e6⟩ := open_token q6
      obtain ⟨s, le, la, wi, ke, qu, a, n, cap, Fr, Wd, K, e7, hts, hnc, hwt⟩ := open_config q7
      simp at e0 e1 e2 e3 e4 e5 e6 e7
      obtain ⟨e60, e61⟩ := e6
      obtain ⟨e70, e71, e72, e73, e74, e75, e76⟩ := e7
      refine ⟨⟨a0, a1, a2, a3, a4, a5, t0, t1, s, le, la, wi, ke, qu, a, n, cap⟩, (Fr, Wd, K), by rw [e0, e1, e2, e3, e4, e5, e60, e61, e70, e71, e72, e73, e74, e75, e76], hts, fun hw => ⟨wf_i64 w1, wf_i64 w2, wf_i32 w5, ?_⟩⟩
      have hh := hwt (fun y hy => hw y (by
        simp only [DataW.weights, Tryz.underlying39]
        exact DataW.weights_mem_each (j := 7) rfl rfl y hy))
      simp only [reachBytes] at hh
      show 24 * (n + 1) ≤ 281474976710656
      omega

theorem open_ops {fuel : Nat} {cs : List Value} {x : DataW H × List MemPlace} (h : DataW.trod enc Tryz.prog w 0 (fun _ => true) held fuel 22 cs = some x) (hw : ∀ y ∈ x.1.weights Tryz.prog 22, y ≤ reachBytes) :
    ∃ (a : Option Addr) (n cap : Nat) (G : Nat → Ops) (T : Nat → (Nat → Int) × (Nat → Int) × (Nat → Int)), cs = [.slice a n cap] ∧ OS w a n G ∧ n ≤ 1099511627776 ∧ (∀ i, i < n → TS w (G i).fa (G i).fn (T i).1 (T i).2.1 (T i).2.2) ∧ ∀ i, i < n → (G i).fits := by
  rcases Go.Deep.open_slice Tryz.underlying22 h with ⟨rfl, rfl⟩ | ⟨a, len, cap, m, n, D, Pl, rfl, hb, hl, hm, hmm, rfl, hx⟩
  · exact ⟨none, 0, 0, fun _ => ⟨0, 0, 0, 0, 0, 0, 0, 0, 0, 0, 0, 0, 0, 0, none, 0, 0⟩, fun _ => (fun _ => 0, fun _ => 0, fun _ => 0), rfl, fun h0 => absurd h0 (Nat.lt_irrefl _), Nat.zero_le _, fun i hi => absurd hi (Nat.not_lt_zero _), fun i hi => absurd hi (Nat.not_lt_zero _)⟩
  · rw [Tryz.cellsOp] at hx
    obtain ⟨G, hG⟩ := Go.Deep.choose_lt (α := Ops × ((Nat → Int) × (Nat → Int) × (Nat → Int))) (n := len) (p := fun i g => w.cells? 0 (a.add (i * 15)) 15 = some [.int .i64 g.1.kd, .int .i64 g.1.on, .int .i64 g.1.a, .int .i64 g.1.b, .int .i64 g.1.c, .int .i32 g.1.v, .int .i64 g.1.te, .int .i64 g.1.tn, .int .i64 g.1.fs, .int .i64 g.1.fle, .int .i64 g.1.fla, .int .i64 g.1.fwi, .int .i64 g.1.fke, .int .i64 g.1.fqu, .slice g.1.fa g.1.fn g.1.fcap] ∧ TS w g.1.fa g.1.fn g.2.1 g.2.2.1 g.2.2.2 ∧ ((∀ y ∈ (D i).weights Tryz.prog 39, y ≤ reachBytes) → g.1.fits)) (fun i hi => by
      obtain ⟨cs', h1, h2⟩ := hx i (by rw [hmm]; simp; omega)
      obtain ⟨o, T, rfl, h3, h4⟩ := open_op h2
      exact ⟨(o, T), h1, h3, h4⟩)
    simp only [DataW.weights, Tryz.underlying22, Tryz.bytesOp] at hw
    have hlen : len ≤ 1099511627776 := by
      have := hw _ (List.mem_cons_self ..)
      simp only [reachBytes, List.length_map, List.length_range] at this
      omega
    refine ⟨some a, len, cap, fun i => (G i).1, fun i => (G i).2, rfl, fun h0 => ?_, hlen, fun i hi => (hG i hi).2.1, fun i hi => (hG i hi).2.2 (fun y hy => hw y (List.mem_cons_of_mem _ (List.mem_append_left _ (wt_all (d := D i) (List.mem_map.2 ⟨i, List.mem_range.2 hi, rfl⟩) y hy))))⟩
    obtain ⟨b, off, spot⟩ := a
    have c0 := (World.cells?_some (hG 0 h0).1).2.2 0 (by omega)
    have hspot : spot = none := by simpa [Addr.add] using World.cell?_spot (c0.trans (by rfl))
    subst hspot
    have hbz : b < w.heap.size := by
      have : w.cell? ⟨b, off, none⟩ = some (.int .i64 (G 0).1.kd) := by simpa [Addr.add] using c0
      by_cases hc : b < w.heap.size
      · exact hc
      · simp [World.cell?, Array.getElem?_eq_none (show w.heap.size ≤ b by omega)] at this
    refine ⟨b, off, rfl, hbz, fun i hi => ?_⟩
    have e := (World.cells?_some (hG i hi).1).2.2
    refine ⟨?_, ?_, ?_, ?_, ?_, ?_, ?_, ?_, ?_, ?_, ?_, ?_, ?_, ?_, ?_⟩
    · have := e 0 (by omega); simpa [add_of_none] using this
    · have := e 1 (by omega); simpa [add_of_none] using this
    · have := e 2 (by omega); simpa [add_of_none] using this
    · have := e 3 (by omega); simpa [add_of_none] using this
    · have := e 4 (by omega); simpa [add_of_none] using this
    · have := e 5 (by omega); simpa [add_of_none] using this
    · have := e 6 (by omega); simpa [add_of_none] using this
    · have := e 7 (by omega); simpa [add_of_none] using this
    · have := e 8 (by omega); simpa [add_of_none] using this
    · have := e 9 (by omega); simpa [add_of_none] using this
    · have := e 10 (by omega); simpa [add_of_none] using this
    · have := e 11 (by omega); simpa [add_of_none] using this
    · have := e 12 (by omega); simpa [add_of_none] using this
    · have := e 13 (by omega); simpa [add_of_none] using this
    · have := e 14 (by omega); simpa [add_of_none] using this
end
end Go.Proofs.YtgadceofpbfleaaGreat
