/- A configuration that came in, opened. -/
import Derived.Test.YtndhpgciopcncaaConf1
import Derived.ProofKit
import Derived.OpenShut
import Derived.Deep.Slices
import Derived.Deep.Strs
import Derived.SizedLaws
namespace Go.Proofs.Ytndhpgciopcncaa
open Go.RowKit Go.ChangeShapes Go.WideShapes

theorem Try.cellsConfig : Try.prog.cellsOf 29 = 7 := by kernel_rfl
theorem Try.cellsTier : Try.prog.cellsOf 26 = 3 := by kernel_rfl
theorem Try.cellsInt : Try.prog.cellsOf 3 = 1 := by kernel_rfl
theorem Try.cellsTiers : Try.prog.cellsOf 27 = 1 := by kernel_rfl
theorem Try.bytesTier : Try.prog.bytesOf 26 = 24 := by kernel_rfl

section
variable {H : Type} {enc : TypeId × Value → H} {w : World} {held : Bool}

set_option maxRecDepth 20000 in
theorem open_tier {fuel : Nat} {cs : List Value} {x : DataW H × List MemPlace} (h : DataW.trod enc Try.prog w 0 (fun _ => true) held fuel 26 cs = some x) : ∃ f wd k : Int, cs = [.int .i64 f, .int .i64 wd, .int .i64 k] := by
  obtain ⟨xs, m, _, rfl, hl, hlen, hf⟩ := DataW.trod_struct Try.underlying26 h
  rw [Try.cellsTier] at hl
  match cs, hl with
  | [c0, c1, c2], _ =>
    match xs, hlen with
    | [y0, y1, y2], _ =>
      have q0 : DataW.trod enc Try.prog w 0 (fun _ => true) held m 3 [c0] = some y0 := by have h : DataW.trod enc Try.prog w 0 (fun _ => true) held m 3 (([c0, c1, c2].drop 0).take (Try.prog.cellsOf 3)) = some y0 := hf 0 _ rfl; rw [Try.cellsInt] at h; exact h
      have q1 : DataW.trod enc Try.prog w 0 (fun _ => true) held m 3 [c1] = some y1 := by have h : DataW.trod enc Try.prog w 0 (fun _ => true) held m 3 (([c0, c1, c2].drop 1).take (Try.prog.cellsOf 3)) = some y1 := hf 1 _ rfl; rw [Try.cellsInt] at h; exact h
      have q2 : DataW.trod enc Try.prog w 0 (fun _ => true) held m 3 [c2] = some y2 := by have h : DataW.trod enc Try.prog w 0 (fun _ => true) held m 3 (([c0, c1, c2].drop 2).take (Try.prog.cellsOf 3)) = some y2 := hf 2 _ rfl; rw [Try.cellsInt] at h; exact h
      obtain ⟨a0, e0, _, _⟩ := DataW.trod_int Try.underlying3 q0
      obtain ⟨a1, e1, _, _⟩ := DataW.trod_int Try.underlying3 q1
      obtain ⟨a2, e2, _, _⟩ := DataW.trod_int Try.underlying3 q2
      simp at e0 e1 e2
      exact ⟨a0, a1, a2, by rw [e0, e1, e2]⟩

theorem add_of_none (b off j : Nat) : (⟨b, off, none⟩ : Addr).add j = ⟨b, off + j, none⟩ := by unfold Addr.add; split <;> simp_all

theorem open_tiers {fuel : Nat} {cs : List Value} {x : DataW H × List MemPlace} (h : DataW.trod enc Try.prog w 0 (fun _ => true) held fuel 27 cs = some x) :
    ∃ (a : Option Addr) (n cap : Nat) (F W K : Nat → Int), cs = [.slice a n cap] ∧ TS w a n F W K ∧ n ≤ cap ∧ ((n = 0 ∧ x.1 = .nil) ∨ ∃ elems spare, x.1 = .slice elems spare ∧ elems.length = n) := by
  rcases Go.Deep.open_slice Try.underlying27 h with ⟨rfl, rfl⟩ | ⟨a, len, cap, m, n, D, Pl, rfl, hb, hl, hm, hmm, rfl, hx⟩
  · exact ⟨none, 0, 0, fun _ => 0, fun _ => 0, fun _ => 0, rfl, fun h0 => absurd h0 (Nat.lt_irrefl _), Nat.le_refl _, .inl ⟨rfl, rfl⟩⟩
  · rw [Try.cellsTier] at hx
    obtain ⟨G, hG⟩ := Go.Deep.choose_lt (α := Int × Int × Int) (n := len) (p := fun i g => w.cells? 0 (a.add (i * 3)) 3 = some [.int .i64 g.1, .int .i64 g.2.1, .int .i64 g.2.2]) (fun i hi => by
      obtain ⟨cs', h1, h2⟩ := hx i (by rw [hmm]; simp; omega)
      obtain ⟨f, wd, k, rfl⟩ := open_tier h2
      exact ⟨(f, wd, k), h1⟩)
    refine ⟨some a, len, cap, fun i => (G i).1, fun i => (G i).2.1, fun i => (G i).2.2, rfl, fun h0 => ?_, hl, .inr ⟨_, _, rfl, by simp⟩⟩
    obtain ⟨b, off, spot⟩ := a
    have c0 := (World.cells?_some (hG 0 h0)).2.2 0 (by omega)
    have hspot : spot = none := by simpa [Addr.add] using World.cell?_spot (c0.trans (by rfl))
    subst hspot
    have hbz : b < w.heap.size := by
      have : w.cell? ⟨b, off, none⟩ = some (.int .i64 (G 0).1) := by simpa [Addr.add] using c0
      by_cases hc : b < w.heap.size
      · exact hc
      · simp [World.cell?, Array.getElem?_eq_none (show w.heap.size ≤ b by omega)] at this
    refine ⟨b, off, rfl, hbz, fun i hi => ?_⟩
    have e := (World.cells?_some (hG i hi)).2.2
    refine ⟨?_, ?_, ?_⟩
    · have := e 0 (by omega); simpa [add_of_none] using this
    · have := e 1 (by omega); simpa [add_of_none] using this
    · have := e 2 (by omega); simpa [add_of_none] using this

set_option maxRecDepth 20000 in
theorem open_config {fuel : Nat} {cs : List Value} {x : DataW H × List MemPlace} (h : DataW.trod enc Try.prog w 0 (fun _ => true) held fuel 29 cs = some x) :
    ∃ (s le la wi ke qu : Int) (a : Option Addr) (n cap : Nat) (F W K : Nat → Int), cs = [.int .i64 s, .int .i64 le, .int .i64 la, .int .i64 wi, .int .i64 ke, .int .i64 qu, .slice a n cap] ∧ TS w a n F W K ∧ n ≤ cap ∧
      ((∀ y ∈ x.1.weights Try.prog 29, y ≤ reachBytes) → 24 * n ≤ reachBytes) := by
  obtain ⟨xs, m, _, rfl, hl, hlen, hf⟩ := DataW.trod_struct Try.underlying29 h
  rw [Try.cellsConfig] at hl
  match cs, hl with
  | [c0, c1, c2, c3, c4, c5, c6], _ =>
    match xs, hlen with
    | [y0, y1, y2, y3, y4, y5, y6], _ =>
      have q0 : DataW.trod enc Try.prog w 0 (fun _ => true) held m 3 [c0] = some y0 := by have h : DataW.trod enc Try.prog w 0 (fun _ => true) held m 3 (([c0, c1, c2, c3, c4, c5, c6].drop 0).take (Try.prog.cellsOf 3)) = some y0 := hf 0 _ rfl; rw [Try.cellsInt] at h; exact h
      have q1 : DataW.trod enc Try.prog w 0 (fun _ => true) held m 3 [c1] = some y1 := by have h : DataW.trod enc Try.prog w 0 (fun _ => true) held m 3 (([c0, c1, c2, c3, c4, c5, c6].drop 1).take (Try.prog.cellsOf 3)) = some y1 := hf 1 _ rfl; rw [Try.cellsInt] at h; exact h
      have q2 : DataW.trod enc Try.prog w 0 (fun _ => true) held m 3 [c2] = some y2 := by have h : DataW.trod enc Try.prog w 0 (fun _ => true) held m 3 (([c0, c1, c2, c3, c4, c5, c6].drop 2).take (Try.prog.cellsOf 3)) = some y2 := hf 2 _ rfl; rw [Try.cellsInt] at h; exact h
      have q3 : DataW.trod enc Try.prog w 0 (fun _ => true) held m 3 [c3] = some y3 := by have h : DataW.trod enc Try.prog w 0 (fun _ => true) held m 3 (([c0, c1, c2, c3, c4, c5, c6].drop 3).take (Try.prog.cellsOf 3)) = some y3 := hf 3 _ rfl; rw [Try.cellsInt] at h; exact h
      have q4 : DataW.trod enc Try.prog w 0 (fun _ => true) held m 3 [c4] = some y4 := by have h : DataW.trod enc Try.prog w 0 (fun _ => true) held m 3 (([c0, c1, c2, c3, c4, c5, c6].drop 4).take (Try.prog.cellsOf 3)) = some y4 := hf 4 _ rfl; rw [Try.cellsInt] at h; exact h
      have q5 : DataW.trod enc Try.prog w 0 (fun _ => true) held m 3 [c5] = some y5 := by have h : DataW.trod enc Try.prog w 0 (fun _ => true) held m 3 (([c0, c1, c2, c3, c4, c5, c6].drop 5).take (Try.prog.cellsOf 3)) = some y5 := hf 5 _ rfl; rw [Try.cellsInt] at h; exact h
      have q6 : DataW.trod enc Try.prog w 0 (fun _ => true) held m 27 [c6] = some y6 := by have h : DataW.trod enc Try.prog w 0 (fun _ => true) held m 27 (([c0, c1, c2, c3, c4, c5, c6].drop 6).take (Try.prog.cellsOf 27)) = some y6 := hf 6 _ rfl; rw [Try.cellsTiers] at h; exact h
      obtain ⟨a0, e0, _, _⟩ := DataW.trod_int Try.underlying3 q0
      obtain ⟨a1, e1, _, _⟩ := DataW.trod_int Try.underlying3 q1
      obtain ⟨a2, e2, _, _⟩ := DataW.trod_int Try.underlying3 q2
      obtain ⟨a3, e3, _, _⟩ := DataW.trod_int Try.underlying3 q3
      obtain ⟨a4, e4, _, _⟩ := DataW.trod_int Try.underlying3 q4
      obtain ⟨a5, e5, _, _⟩ := DataW.trod_int Try.underlying3 q5
      obtain ⟨a, n, cap, F, W, K, e6, hts, hnc, hd⟩ := open_tiers q6
      simp at e0 e1 e2 e3 e4 e5 e6
      refine ⟨a0, a1, a2, a3, a4, a5, a, n, cap, F, W, K, by rw [e0, e1, e2, e3, e4, e5, e6], hts, hnc, fun hw => ?_⟩
      rcases hd with ⟨rfl, _⟩ | ⟨elems, spare, hd, hel⟩
      · simp
      · have hh := hw ((elems.length + spare.length) * 24) (by
          refine (show ∀ n ∈ y6.1.weights Try.prog 27, n ∈ _ from fun n hn => ?_) _ (by rw [hd]; simp [DataW.weights, Try.underlying27, Try.bytesTier])
          simp only [DataW.weights, Try.underlying29]
          exact DataW.weights_mem_each (j := 6) rfl rfl n hn)
        rw [hel] at hh
        omega
end
end Go.Proofs.Ytndhpgciopcncaa
