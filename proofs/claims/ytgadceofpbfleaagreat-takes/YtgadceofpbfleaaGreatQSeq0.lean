import Derived.RangeFuncNested
import Derived.RangeFuncBound
import Derived.RangeFuncCalls
import Derived.RangeFuncLeaves
import Derived.Shelf.Abstract
import Derived.Shelf.RegionOpen
import Derived.WalkKit
import Derived.OwnWalkIn
import Derived.TacticsInMore
import Derived.LoopNIn
import Derived.LoopIn
import Derived.Test.YtgadceofpbfleaaGreatQMap0

/- maps.Values over the map of segments: its iterator, for every loop body. -/
namespace Go.Proofs.YtgadceofpbfleaaGreat
open Go.RowKit Go.Maps Go.Shelf
open Go.ChangeMaps (setBlock)
set_option linter.unusedVariables false
attribute [local go_sem] Oper.semAt_some

theorem setBlock_at {w : World} {r : Nat} (h : r < w.heap.size) (o : Obj) : (setBlock w r o).heap[r]? = some o := by simp [setBlock, h]
theorem setBlock_other {w : World} {r k : Nat} (h : k ≠ r) (o : Obj) : (setBlock w r o).heap[k]? = w.heap[k]? := by
  simp only [setBlock]; rw [Array.getElem?_setIfInBounds_ne (fun e => h e.symm)]
theorem setBlock_grown (w : World) (r : Nat) (o : Obj) : w.grownBy (setBlock w r o) (some r) :=
  ⟨rfl, rfl, rfl, by simp [setBlock], fun k _ hk => setBlock_other (fun e => hk (by rw [e])) o⟩

/-- how many entries are left of a range over a map. -/
def leftAt (es : Array MapEntry) (r : Nat) (w : World) : Nat := match w.heap[r]? with
  | some (.mapIter _ _ seen _) => (leftOf es seen).size
  | _ => 0
theorem leftAt_eq {es : Array MapEntry} {r : Nat} {w : World} {m : Option Nat} {s : Nat} {seen : Array Nat} {c : Nat} (h : w.heap[r]? = some (.mapIter m s seen c)) : leftAt es r w = (leftOf es seen).size := by
  unfold leftAt; rw [h]
theorem mem_leftOf {es : Array MapEntry} {seen : Array Nat} {e : MapEntry} : e ∈ (leftOf es seen).toList ↔ e ∈ es.toList ∧ e.born ∉ seen.toList := by
  simp [leftOf]
theorem left_less {es : Array MapEntry} {seen : Array Nat} {e : MapEntry} (he : e ∈ (leftOf es seen).toList) : (leftOf es (seen.push e.born)).size < (leftOf es seen).size := by
  have h1 : leftOf es (seen.push e.born) = (leftOf es seen).filter (fun x => x.born != e.born) := by
    unfold leftOf
    rw [Array.filter_filter]
    congr 1
    funext x
    by_cases h : x.born = e.born <;> simp [h]
  rw [h1]
  simp
  exact ⟨e, Array.mem_toList_iff.1 he, rfl⟩

/-- those that have come, of a map's entries. -/
structure Come (es : Array MapEntry) (seen : Array Nat) (ps : List MapEntry) : Prop where
  born : ps.map (·.born) = seen.toList
  once : (ps.map (·.born)).Nodup
  sub : ∀ e ∈ ps, e ∈ es.toList
theorem Come.step {es : Array MapEntry} {seen : Array Nat} {ps : List MapEntry} (h : Come es seen ps) {e : MapEntry} (he : e ∈ (leftOf es seen).toList) : Come es (seen.push e.born) (ps ++ [e]) := by
  obtain ⟨h1, h2⟩ := mem_leftOf.1 he
  refine ⟨by simp [h.born], ?_, fun x hx => ?_⟩
  · rw [List.map_append, List.nodup_append]
    refine ⟨h.once, by simp, fun a ha b hb => ?_⟩
    simp at hb; subst hb; intro e1; subst e1; rw [h.born] at ha; exact h2 ha
  · rcases List.mem_append.1 hx with hx | hx
    · exact h.sub x hx
    · simp at hx; subst hx; exact h1
theorem born_eq {es : Array MapEntry} (hn : (es.toList.map (·.born)).Nodup) {a b : MapEntry} (ha : a ∈ es.toList) (hb : b ∈ es.toList) (h : a.born = b.born) : a = b := by
  have hpw : es.toList.Pairwise (fun a b => a.born ≠ b.born) := List.pairwise_map.1 hn
  obtain ⟨i, hi, ei⟩ := List.getElem_of_mem ha
  obtain ⟨j, hj, ej⟩ := List.getElem_of_mem hb
  rcases Nat.lt_trichotomy i j with h1 | h1 | h1
  · have := List.pairwise_iff_getElem.1 hpw i j hi hj h1; rw [ei, ej] at this; exact absurd h this
  · subst h1; rw [← ei, ej]
  · have := List.pairwise_iff_getElem.1 hpw j i hj hi h1; rw [ei, ej] at this; exact absurd h.symm this
theorem Come.all {es : Array MapEntry} {seen : Array Nat} {ps : List MapEntry} (h : Come es seen ps) (hn : (es.toList.map (·.born)).Nodup) (h0 : (leftOf es seen).size = 0) : ps.Perm es.toList := by
  have hps : ps.Nodup := List.Pairwise.of_map (·.born) (fun a b h e => h (by rw [e])) h.once
  have hes : es.toList.Nodup := List.Pairwise.of_map (·.born) (fun a b h e => h (by rw [e])) hn
  refine (List.perm_ext_iff_of_nodup hps hes).2 (fun e => ⟨h.sub e, fun he => ?_⟩)
  have hs : e.born ∈ seen.toList := by
    by_cases hc : e.born ∈ seen.toList
    · exact hc
    · have : e ∈ (leftOf es seen).toList := mem_leftOf.2 ⟨he, hc⟩
      have h1 : (leftOf es seen).toList = [] := by
        apply List.eq_nil_of_length_eq_zero; simpa using h0
      rw [h1] at this; simp at this
  rw [← h.born] at hs
  obtain ⟨x, hx, e1⟩ := List.mem_map.1 hs
  rw [← born_eq hn (h.sub x hx) he e1]; exact hx
theorem Come.lt {es : Array MapEntry} {seen : Array Nat} {ps : List MapEntry} (h : Come es seen ps) {e : MapEntry} (he : e ∈ (leftOf es seen).toList) : ps.length < es.size := by
  have h2 := (h.step he)
  have hps : (ps ++ [e]).Nodup := List.Pairwise.of_map (·.born) (fun a b h e => h (by rw [e])) h2.once
  have := List.Nodup.length_le_of_subset hps (fun x hx => h2.sub x hx)
  simp at this; omega

def valOf (e : MapEntry) : SV := match e.val with
  | .agg #[.int .i64 a, .int .i64 b, .int .i64 c, .int .i32 d, .int .i32 f] => ⟨a, ⟨b, c, d, f⟩⟩
  | _ => ⟨0, noCl⟩
theorem vals_perm {es : Array MapEntry} {clock : Nat} {L : LV} (h : Ents es clock L) {ps : List MapEntry} (hp : ps.Perm es.toList) : (ps.map valOf).Perm (L.map (·.2)) := by
  have h1 : es.toList.map valOf = L.map (·.2) := by
    have e1 : es.toList.map valOf = (es.toList.map (fun e => (e.key, e.val))).map (fun q => valOf ⟨q.1, q.2, 0⟩) := by
      rw [List.map_map]; apply List.map_congr_left; intro e _; rfl
    rw [e1, h.kv, List.map_map]
    apply List.map_congr_left
    intro p _
    rfl
  rw [← h1]; exact hp.map _

set_option maxRecDepth 100000 in
set_option maxHeartbeats 1000000 in
/-- maps.Values' iterator, for every loop body. -/
theorem values1_any (n : Nat) (hn : 1 ≤ n) (l Bm b : Nat) (L : LV) (J Jx : List SV → World → Prop)
    (hY : ∀ pre x W, J pre W → pre.length < L.length → YieldAt Fence.wide (n - 1) Tryz.prog l #[.agg #[.int .i64 x.st, .int .i64 x.cl.cnt, .int .i64 x.cl.sum, .int .i32 x.cl.mn, .int .i32 x.cl.mx]] W fun e W' =>
      (e = .returned (.bool true) ∧ J (pre ++ [x]) W' ∧ KeepsWalks W W') ∨ (e = .returned (.bool false) ∧ Jx (pre ++ [x]) W'))
    (W : World) (hJ : AbidesFrom W.heap.size J) (hm : W.cell? ⟨Bm, 0, none⟩ = some (.map (some b))) (hown : LiveAt W b L) (h0 : J [] W) :
    CallsIn Fence.wide n Tryz.prog 99 #[.func (.yield l) #[] #[], .pointer (some ⟨Bm, 0, none⟩)] W fun e W' => (∃ v, e = .returned v) ∧
      ((∃ xs, xs.Perm (L.map (·.2)) ∧ J xs W') ∨ (∃ pre, True ∧ Jx pre W')) := by
  obtain ⟨es, clock, hb, he⟩ := hown
  have hbl := lt_of_heap hb
  have hrange := run_range_map (P := Tryz.prog) W 139 _ _ b es clock Tryz.underlying139 hb
  have HE := hide he
  have hsz := size_LV he
  refine callsIn_of_wp Tryz.func99 rfl trivial ?_ rfl
  simp only [Tryz.ntmps99, List.size_toArray, List.length_cons, List.length_nil, Nat.reduceAdd, Nat.reduceSub, Array.replicate_succ, Array.replicate_zero, List.push_toArray, List.append_toArray, List.nil_append, List.cons_append]
  gi_wp2
  gi_loopw [4] (fun _ wr => ∃ (seen : Array Nat) (c0 : Nat) (ps : List MapEntry), wr.heap[W.heap.size]? = some (.mapIter (some b) clock seen c0) ∧ clock ≤ c0 ∧ wr.heap[b]? = some (.map es clock) ∧ Come es seen ps ∧ J (ps.map valOf) wr)
    (fun _ wr => leftAt es W.heap.size wr)
  case atStart =>
    exact ⟨#[], clock, [], rlast _ _, Nat.le_refl _, (Below.heap_alloc _ _ _ hbl).trans hb, ⟨by simp, by simp, by simp⟩, hJ [] W _ none h0 (World.grownBy_alloc W _ none) (fun r e => by cases e)⟩
  case round =>
    obtain ⟨seen, c0, ps, hr, hc0, hbr, hC, hJs⟩ := hrel
    have hrl := lt_of_heap hr
    have HC := hide hC
    rcases run_next_at (P := Tryz.prog) wr 0 W.heap.size b clock c0 seen es clock hr hbr (unhide HE).born hc0 with ⟨hz, hnext⟩ | ⟨e, hel, w1, hw1, hnext⟩
    · have HZ := hide hz
      clear hrange hz hC he
      gi_wp2
      go_end0
      exact ⟨⟨_, rfl⟩, .inl ⟨_, vals_perm (unhide HE) ((unhide HC).all (unhide HE).once (unhide HZ)), hJs⟩⟩
    · have HEL := hide hel
      obtain ⟨hee, _⟩ := mem_leftOf.1 hel
      have hr1 : w1.heap[W.heap.size]? = some (.mapIter (some b) clock seen c0) := by rcases hw1 with rfl | rfl <;> exact hr
      have hb1 : w1.heap[b]? = some (.map es clock) := by rcases hw1 with rfl | rfl <;> exact hbr
      have hne : b ≠ W.heap.size := by omega
      obtain ⟨X, hX⟩ : ∃ X, setBlock w1 W.heap.size (.mapIter (some b) clock (seen.push e.born) clock) = X := ⟨_, rfl⟩
      have hXr : X.heap[W.heap.size]? = some (.mapIter (some b) clock (seen.push e.born) clock) := by rw [← hX]; exact setBlock_at (lt_of_heap hr1) _
      have hXb : X.heap[b]? = some (.map es clock) := by rw [← hX, setBlock_other hne]; exact hb1
      have hgX : wr.grownBy X (some W.heap.size) := by
        rw [← hX]; rcases hw1 with rfl | rfl
        · exact setBlock_grown _ _ _
        · have := setBlock_grown wr.drew W.heap.size (.mapIter (some b) clock (seen.push e.born) clock)
          exact ⟨this.os, this.tape, this.output, this.size, this.block⟩
      rw [hX] at hnext
      have hent := run_entry_at (P := Tryz.prog) X W.heap.size b clock seen es clock e hXr hXb hee (unhide HE).once
      obtain ⟨i, hi, ei⟩ := List.getElem_of_mem hee
      obtain ⟨p, hp, hk, hv⟩ := (unhide HE).at (j := i) (e := e) (by rw [List.getElem?_eq_getElem hi, ei])
      have hval : valOf e = p.2 := by unfold valOf; rw [hv]; rfl
      unfold svVal at hv
      rw [hv] at hnext hent
      have hJX : J (ps.map valOf) X := hJ _ wr X (some W.heap.size) hJs hgX (fun r e => by cases e; exact ⟨Nat.le_refl _, _, hr, rfl⟩)
      have hJA := fun o => hJ _ X (X.alloc o) none hJX (World.grownBy_alloc X _ none) (fun r e => by cases e)
      obtain ⟨fn, tmps, assign, body, hy, hR⟩ := hY (ps.map valOf) p.2 _ (hJA (.cells #[.int .i64 p.2.st, .int .i64 p.2.cl.cnt, .int .i64 p.2.cl.sum, .int .i32 p.2.cl.mn, .int .i32 p.2.cl.mx] 145)) (by rw [List.length_map]; have := hC.lt hel; omega)
      have HXR := hide hXr
      have HXB := hide hXb
      have HX := hide hX
      have HVAL := hide hval
      have HHR := hide hr
      clear hrange hC he hXr hXb hX hee hr1 hb1 hv hk hgX hval hr hbr hel hw1
      gi_wp2
      refine hR.mono ?_
      rintro e3 W3 (⟨rfl, hJ3, hk3⟩ | ⟨rfl, hJx3⟩)
      · gi_wp2
        have hr3 := hk3.same W.heap.size _ ((Below.heap_alloc _ _ _ (lt_of_heap (unhide HXR))).trans (unhide HXR)) rfl
        have hb3 := hk3.same b _ ((Below.heap_alloc _ _ _ (lt_of_heap (unhide HXB))).trans (unhide HXB)) rfl
        go_roundw
        case rel => exact ⟨_, _, ps ++ [e], hr3, Nat.le_refl _, hb3, (unhide HC).step (unhide HEL), by rw [List.map_append, List.map_singleton, unhide HVAL]; exact hJ3⟩
        case measure => rw [leftAt_eq hr3, leftAt_eq (unhide HHR)]; exact left_less (unhide HEL)
      · gi_wp2
        refine bodyPost_ret (results_none rfl _ _ _) rfl ?_
        exact ⟨⟨_, rfl⟩, .inr ⟨_, trivial, hJx3⟩⟩

/-- maps.Values(m): the map is boxed; the function value captures the box. -/
theorem mvalues_any (b : Nat) (w : World) :
    Calls Tryz.prog 79 #[.map (some b)] w fun e w' => e = .returned (.func (.func 99) #[] #[.pointer (some ⟨w.heap.size, 0, none⟩)]) ∧ w' = w.alloc (.cells #[.map (some b)] 139) := by
  go_enter Tryz.func79, Tryz.ntmps79
  go_wp2_with fail
  go_ret
  exact ⟨rfl, rfl⟩

/-- .. which gives all elements, in some order. -/
theorem mvalues_stops (n : Nat) (hn : 1 ≤ n) (Bm b : Nat) (L : LV) (w : World) (hBm : Bm < w.heap.size) (hm : w.cell? ⟨Bm, 0, none⟩ = some (.map (some b))) (hown : LiveAt w b L) :
    SeqStopsK Fence.wide n Tryz.prog 99 #[.pointer (some ⟨Bm, 0, none⟩)] (fun x : SV => #[.agg #[.int .i64 x.st, .int .i64 x.cl.cnt, .int .i64 x.cl.sum, .int .i32 x.cl.mn, .int .i32 x.cl.mx]]) KeepsWalks (fun xs => xs.Perm (L.map (·.2))) (fun _ => True) L.length w :=
  fun l J Jx W hW hJ _ hY h0 => values1_any n hn l Bm b L J Jx hY W hJ ((hW.cell (p := ⟨Bm, 0, none⟩) hBm).trans hm) (hown.later hW) h0
end Go.Proofs.YtgadceofpbfleaaGreat
