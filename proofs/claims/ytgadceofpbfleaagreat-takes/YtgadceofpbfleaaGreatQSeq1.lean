import Derived.Test.YtgadceofpbfleaaGreatQSeq0

/- lists.Sum, an instance for each element type and function (written by wip/mkseq.py). -/
namespace Go.Proofs.YtgadceofpbfleaaGreat
open Go.RowKit Go.Maps Go.Shelf
set_option linter.unusedVariables false
attribute [local go_sem] Oper.semAt_some

/-- a segment whose numbers are ints. -/
abbrev WSg := { s : Sg // s.wf }
theorem zero_wf : (⟨0, 0, 0⟩ : Sg).wf := by refine ⟨?_, ?_, ?_⟩ <;> (unfold i64B; simp)
noncomputable def wSeg (s : Sg) : WSg := by classical exact if h : s.wf then ⟨s, h⟩ else ⟨⟨0, 0, 0⟩, zero_wf⟩
theorem wSeg_val {s : Sg} (h : s.wf) : (wSeg s).1 = s := by unfold wSeg; rw [dif_pos h]

def wsum (l : List Int) : Int := l.foldl (fun s x => wrap64 (s + x)) 0
theorem wsum_nil : wsum [] = 0 := rfl
theorem wsum_snoc (l : List Int) (x : Int) : wsum (l ++ [x]) = wrap64 (wsum l + x) := by simp [wsum]
theorem wrap_in (a b : Int) : wrap64 (wrap64 a + b) = wrap64 (a + b) := by unfold wrap64; omega
theorem wsum_eq : ∀ l : List Int, wsum l = wrap64 (sumI l) := by
  intro l
  have h : ∀ (l : List Int) (s : Int), l.foldl (fun s x => wrap64 (s + x)) (wrap64 s) = wrap64 (s + sumI l) := by
    intro l
    induction l with
    | nil => intro s; simp [sumI]
    | cons x l ih => intro s; rw [List.foldl_cons, wrap_in, ih, sumI]; congr 1; omega
  have := h l 0
  have e : wrap64 0 = 0 := by unfold wrap64; omega
  rw [e] at this
  unfold wsum; rw [this]; congr 1; omega
theorem wsum_small {l : List Int} (h : -9223372036854775808 ≤ sumI l ∧ sumI l ≤ 9223372036854775807) : wsum l = sumI l := by
  rw [wsum_eq]; unfold wrap64; omega

/-- a block of cells stays where other kinds of blocks turn. -/
theorem own_cells {W W' : World} {row : Option Nat} {k : Nat} {cs : Array Value} {t : TypeId} {fr : Nat × Nat} (h : W.heap[k]? = some (.cells cs t fr)) (hg : W.grownBy W' row) (hr : ∀ r, row = some r → ∃ o : Obj, W.heap[r]? = some o ∧ o.isCells = false) : W'.heap[k]? = some (.cells cs t fr) := by
  refine (hg.block k (lt_of_heap h) (fun e => ?_)).trans h
  obtain ⟨o, ho, hc⟩ := hr k e.symm
  rw [h] at ho
  injection ho with ho
  subst ho
  simp [Obj.isCells] at hc
theorem keeps_below {W W' : World} (h : Below W.heap.size W W') : KeepsOthers W W' := ⟨h.size, fun k o hk _ => (h.block k (lt_of_heap hk)).trans hk⟩
theorem below_putDef {n D : Nat} {w W : World} {o : Obj} (h : Below n w W) (hn : n ≤ w.heap.size) (hD : n ≤ D) (hK : W.heap[D]? = some o) (o' : Obj) : Below n w (W.putObj D o') :=
  h.grown (grownBy_putObj' W D o') (Nat.le_trans hn h.size) (fun k e => by cases e; exact hD)

/-- what a loop over an iterator asks of what its rounds keep. -/
structure Keeping (n : Nat) (Kp : World → World → Prop) : Prop where
  t : ∀ {A B C : World}, Kp A B → Kp B C → Kp A C
  b : ∀ (W : World) (l : Nat) (o o' : Obj), n ≤ l → W.heap[l]? = some o → o.isCells = false → o.isWalk = false → Kp W (W.putObj l o')
  of : ∀ (W W' : World), KeepsOthers W W' → Below n W W' → Kp W W'
theorem keeping_walks (n : Nat) : Keeping n KeepsWalks := ⟨fun h k => h.trans k, fun W l o o' _ h _ hw => KeepsWalks.putObj _ h hw, fun W W' h _ => h.walks⟩
theorem keeping_below (n : Nat) : Keeping n (Below n) := ⟨fun h k => h.trans k, fun W l o o' hl h _ _ => (Below.refl n W).grown (grownBy_putObj' W l o') (by have := lt_of_heap h; omega) (fun k e => by cases e; exact hl), fun W W' _ h => h⟩

theorem sum_round {α : Type} {w W w' : World} {Kp : World → World → Prop} {f : α → Int} {pre : List α} {x : α} {v : Value} {t t2 : TypeId} {B : Nat} {u : Value} (hu : u = .int .i64 (wrap64 (wsum (pre.map f) + f x)))
    (i1 : W.heap[w.heap.size]? = some (.cells #[v] t (0, 0))) (i2 : W.heap[w.heap.size + 1]? = some (.cells #[.int .i64 (wsum (pre.map f))] t2 (0, 0))) (i3 : Below w.heap.size w W) (hkp : Keeping w.heap.size Kp) (hb : Below W.heap.size W w') :
    KeepsFrom B W (w'.setCell ⟨w.heap.size + 1, 0, none⟩ u) ∧ Kp W (w'.setCell ⟨w.heap.size + 1, 0, none⟩ u) ∧ ((w'.setCell ⟨w.heap.size + 1, 0, none⟩ u).heap[w.heap.size]? = some (.cells #[v] t (0, 0)) ∧ (w'.setCell ⟨w.heap.size + 1, 0, none⟩ u).heap[w.heap.size + 1]? = some (.cells #[.int .i64 (wsum ((pre ++ [x]).map f))] t2 (0, 0)) ∧ Below w.heap.size w (w'.setCell ⟨w.heap.size + 1, 0, none⟩ u)) := by
  subst hu
  have hz1 := lt_of_heap i1
  have hz2 := lt_of_heap i2
  have k1 : KeepsOthers W (w'.setCell ⟨w.heap.size + 1, 0, none⟩ (.int .i64 (wrap64 (wsum (pre.map f) + f x)))) := (keeps_below hb).trans (KeepsOthers.setCell _ _ _)
  have k2 : Below w.heap.size W (w'.setCell ⟨w.heap.size + 1, 0, none⟩ (.int .i64 (wrap64 (wsum (pre.map f) + f x)))) := ((hb.mono i3.size).setCell (p := ⟨w.heap.size + 1, 0, none⟩) (Nat.le_succ _) _)
  refine ⟨k1.from _, hkp.of _ _ k1 k2, ?_, ?_, i3.trans k2⟩
  · have h1 := (hb.block _ hz1).trans i1
    show (w'.setCell ⟨w.heap.size + 1, 0, none⟩ _).heap[w.heap.size]? = _
    have hbk := ((Below.refl (w.heap.size + 1) w').setCell (p := ⟨w.heap.size + 1, 0, none⟩) (Nat.le_refl _) (.int .i64 (wrap64 (wsum (pre.map f) + f x)))).block w.heap.size (Nat.lt_succ_self _)
    exact hbk.trans h1
  · have h2 := (hb.block _ hz2).trans i2
    rw [List.map_append, List.map_singleton, wsum_snoc]
    exact rset (i := 0) h2 _

end Go.Proofs.YtgadceofpbfleaaGreat
