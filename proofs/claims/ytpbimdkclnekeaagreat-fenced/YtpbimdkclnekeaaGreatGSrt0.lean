import Derived.Test.YtpbimdkclnekeaaGreatGOrd4
import Derived.Sort.Grow
import Derived.Sort.Statements
import Derived.Deep.Draws
import Derived.Test.YtpbimdkclnekeaaGreatGTel1
import Derived.Test.YtpbimdkclnekeaaGreatGLater
import Derived.Test.YtpbimdkclnekeaaGreatGItr1
import Derived.Shelf.SlSortCmp.WholeK
import Derived.Shelf.SlSortCmp.NoneTotal
import Derived.Test.YtpbimdkclnekeaaGreatGMod2

namespace Go.Proofs.YtpbimdkclnekeaaGreat
open Go.RowKit Go.Maps Go.Shelf
set_option linter.unusedVariables false
theorem Dr.Below.lays {w w' : World} (h : Dr.Below w.heap.size w w') : ∃ q os, w' = Go.Sort.grow (w.drewN q) os := by
  obtain ⟨⟨h1, h2, h3, h4, h5⟩, h6⟩ := h
  refine ⟨w'.drawn - w.drawn, w'.heap.extract w.heap.size w'.heap.size, ?_⟩
  obtain ⟨hp, tp, dr, os, ou⟩ := w'
  dsimp only at h1 h2 h3 h4 h5 h6 ⊢
  subst h1 h2 h3
  unfold Go.Sort.grow World.drewN
  dsimp only
  congr 1
  · apply Array.ext_getElem?
    intro i
    rw [Array.getElem?_append]
    split
    · rename_i hi; exact h5 i hi
    · rename_i hi
      rw [Array.getElem?_extract]
      split
      · congr 1; omega
      · rw [Array.getElem?_eq_none]; omega
  · omega
theorem byKeyV_lt (x y : Tsk) : byKeyV x y < 0 ↔ (x.kd < y.kd ∨ x.kd = y.kd ∧ (x.s.t < y.s.t ∨ x.s.t = y.s.t ∧ (x.s.ser < y.s.ser ∨ x.s.ser = y.s.ser ∧ x.s.win < y.s.win))) := by
  unfold byKeyV
  simp only [orL, cmpJ]
  repeat' split
  all_goals omega
theorem byKeyV_eq {x y : Tsk} (h1 : ¬ byKeyV x y < 0) (h2 : ¬ byKeyV y x < 0) : x.kd = y.kd ∧ x.s.t = y.s.t ∧ x.s.ser = y.s.ser ∧ x.s.win = y.s.win := by
  rw [byKeyV_lt] at h1 h2
  omega
theorem byKey_swo : Go.Sort.SWO (fun x y : Tsk => decide (byKeyV x y < 0)) where
  irrefl x := by simp only [decide_eq_false_iff_not, byKeyV_lt]; omega
  trans x y z h1 h2 := by simp only [decide_eq_true_eq, byKeyV_lt] at *; omega
  ntrans x y z h1 h2 := by simp only [decide_eq_false_iff_not, byKeyV_lt] at *; omega
theorem sorted_one {l l' : List Tsk} (hp : l.Perm l') (h1 : l.Pairwise (fun a b => ¬ byKeyV b a < 0)) (h2 : l'.Pairwise (fun a b => ¬ byKeyV b a < 0)) (hk : ∀ a ∈ l, ∀ b ∈ l, a.key = b.key → a = b) : l = l' :=
  hp.eq_of_pairwise (fun a b ha hb hab hba => hk a ha b (hp.mem_iff.2 hb) (by
    obtain ⟨e1, e2, e3, e4⟩ := byKeyV_eq hba hab
    unfold Tsk.key
    rw [e1, show a.s = b.s from by
      obtain ⟨_, ⟨_, _, _⟩, _, _, _⟩ := a
      obtain ⟨_, ⟨_, _, _⟩, _, _, _⟩ := b
      simp only at e2 e3 e4 ⊢
      rw [e2, e3, e4]])) h1 h2
end Go.Proofs.YtpbimdkclnekeaaGreat

namespace Go.Proofs.YtpbimdkclnekeaaGreat
open Go.RowKit Go.Maps Go.Shelf
set_option linter.unusedVariables false
def jobO (QL : List (Tok × Lse)) (x : Tsk) : Tok × Int × Int := match QL.find? (fun p => decide (p.2.job = x.key)) with | some p => (p.1, p.2.slot, p.2.til) | none => (⟨0, 0⟩, -1, 0)
def tellV (QL : List (Tok × Lse)) (x : Tsk) : List Value := [.int .i64 x.kd, .int .i64 x.s.t, .int .i64 x.s.ser, .int .i64 x.s.win, .int .i64 x.since, .int .i64 x.tries, .int .i64 x.rest, .int .i64 (jobO QL x).1.ep, .int .i64 (jobO QL x).1.num, .int .i64 (jobO QL x).2.1, .int .i64 (jobO QL x).2.2]
theorem tellV_len (QL : List (Tok × Lse)) (x : Tsk) : (tellV QL x).length = 11 := rfl
theorem tellV_one (QL : List (Tok × Lse)) (x : Tsk) : ∀ v ∈ tellV QL x, v.oneCell' = true := fun v hv => by
  simp only [tellV, List.mem_cons, List.not_mem_nil, or_false] at hv
  rcases hv with rfl | rfl | rfl | rfl | rfl | rfl | rfl | rfl | rfl | rfl | rfl <;> rfl
theorem nodup_map_eq {α β : Type} {f : α → β} : ∀ {l : List α}, (l.map f).Nodup → ∀ x ∈ l, ∀ y ∈ l, f x = f y → x = y
  | [], _, x, hx, _, _, _ => by cases hx
  | a :: l, h, x, hx, y, hy, e => by
    rw [List.map_cons, List.nodup_cons] at h
    rcases List.mem_cons.1 hx with rfl | hx'
    · rcases List.mem_cons.1 hy with rfl | hy'
      · rfl
      · exact absurd (List.mem_map.2 ⟨y, hy', e.symm⟩) h.1
    · rcases List.mem_cons.1 hy with rfl | hy'
      · exact absurd (List.mem_map.2 ⟨x, hx', e⟩) h.1
      · exact nodup_map_eq h.2 x hx' y hy' e
theorem tell_all {w : World} {b : Nat} {c : Cf} {tv : Value} {ep num : Int} {tb qb : Nat} {TL : List (Jk × Tsk)} {QL : List (Tok × Lse)} (h : BoardAt w b c tv ep num tb qb TL QL) (hu : (QL.map (fun q => q.2.job)).Nodup) (x : Tsk) :
    Calls Tryz.prog 89 #[.pointer (some ⟨b, 0, none⟩), .agg #[.iface x.jt (.agg #[.int .i64 x.s.t, .int .i64 x.s.ser, .int .i64 x.s.win]), .int .i64 x.since, .int .i64 x.tries, .int .i64 x.rest]] w fun e w' => e = .returned (.agg (tellV QL x).toArray) ∧ Below w.heap.size w w' := by
  unfold tellV jobO
  cases hq : QL.find? (fun p => decide (p.2.job = x.key)) with
  | none =>
    refine (tell_free h x (fun p hp e => ?_)).mono fun e w' hh => hh
    have := List.find?_eq_none.1 hq p hp
    simp [e] at this
  | some p =>
    have hm := List.mem_of_find?_eq_some hq
    have hj : p.2.job = x.key := by have := List.find?_some hq; simpa using this
    exact (tell_any h x p.1 p.2 hm hj (fun q hq' e => nodup_map_eq hu q hq' p hm (e.trans hj.symm))).mono fun e w' hh => hh
theorem tasks_one {TL : List (Jk × Tsk)} (hk : ∀ p ∈ TL, p.1 = p.2.key) (hn : (keysM TL).Nodup) : ∀ a ∈ TL.map (fun p => p.2), ∀ b ∈ TL.map (fun p => p.2), a.key = b.key → a = b := fun a ha b hb e => by
  obtain ⟨p, hp, rfl⟩ := List.mem_map.1 ha
  obtain ⟨q, hq, rfl⟩ := List.mem_map.1 hb
  rw [nodup_map_eq hn p hp q hq (by rw [hk p hp, hk q hq, e])]
structure JobsOf (TL : List (Jk × Tsk)) (ts : List Tsk) : Prop where
  perm : ts.Perm (TL.map (fun p => p.2))
  sorted : ts.Pairwise (fun a b => ¬ byKeyV b a < 0)
theorem JobsOf.one {TL : List (Jk × Tsk)} {ts ts' : List Tsk} (h : JobsOf TL ts) (h' : JobsOf TL ts') (hk : ∀ p ∈ TL, p.1 = p.2.key) (hn : (keysM TL).Nodup) : ts = ts' :=
  sorted_one (h.perm.trans h'.perm.symm) h.sorted h'.sorted (fun a ha b hb e => tasks_one hk hn a (h.perm.mem_iff.1 ha) b (h.perm.mem_iff.1 hb) e)
theorem JobsOf.len {TL : List (Jk × Tsk)} {ts : List Tsk} (h : JobsOf TL ts) : ts.length = TL.length := by rw [h.perm.length_eq, List.length_map]
theorem job_at {w : World} {B : Nat} {e : TypeId} {v : Value} {QL : List (Tok × Lse)} {l : List Tsk} (h : w.ownsRow B e 11 v l.length (l.flatMap (tellV QL))) {i : Nat} {x : Tsk} (hx : l[i]? = some x) :
    ∃ g cap, v = .slice (some ⟨g, 0, none⟩) l.length cap ∧ g < w.heap.size ∧ ∀ j, j < 11 → w.cell? ⟨g, i * 11 + j, none⟩ = (tellV QL x)[j]? := by
  have hi : i < l.length := (List.getElem?_eq_some_iff.1 hx).1
  obtain ⟨g, cap, hv, _, hl⟩ := h.form (by omega)
  subst hv
  refine ⟨g, cap, rfl, hl, fun j hj => ?_⟩
  rw [h.cellAt (i * 11 + j) (by omega)]
  exact flat_get (tellV_len QL) l i x j hx hj
end Go.Proofs.YtpbimdkclnekeaaGreat

namespace Go.Proofs.YtpbimdkclnekeaaGreat
open Go.RowKit Go.Maps Go.Shelf Go.Sort
set_option linter.unusedVariables false
theorem sw_kept {α : Type} [Inhabited α] (enc : α → List Value) (k : Nat) (w : World) (blk off n : Nat) (d : Array α) (os : Array Obj) : Kept (fun j => j = blk) w (sortWorldK enc k w blk off n d os) where
  os := rfl
  tape := rfl
  output := rfl
  size := size_sortWorldK_c enc k w blk off n d os
  block j hj hn := by
    unfold sortWorldK putRowK
    rw [heap_grow_old _ _ (by rw [size_putRow]; exact hj)]
    unfold putRow mapBlock
    show ((Sort.ahead w n).heap.modify blk _)[j]? = _
    rw [Array.getElem?_modify, if_neg (fun e => hn e.symm)]
    rfl
theorem en_byKey : ∀ args w, (callFunc 91 args).run Tryz.prog w = .ok (.enter 91 args) w := enters_of Tryz.func91 (by kernel_rfl) rfl
theorem tsk4_lays (blk off size : Nat) (w : World) : CmpLays Tryz.prog 91 #[] tsk4 4 byKeyV blk off size w :=
  fun m os dk hs x y => (Dr.byKey_any x y _).mono fun e w' ⟨he, hb⟩ => ⟨he, hb.lays⟩
theorem sort_tsk (blk cap : Nat) (xs : List Tsk) (w : World) (hH : HoldsK tsk4 4 w blk 0 xs.toArray) (hblk : blk < w.heap.size) (hsz : xs.length < 4611686018427387904) :
    Calls Tryz.prog 140 #[.slice (some ⟨blk, 0, none⟩) xs.length cap, .func (.func 91) #[] #[]] w fun e w' => e = .returned (.tuple #[]) ∧ ∃ ys : List Tsk, ys.Perm xs ∧ ys.Pairwise (fun a b => ¬ byKeyV b a < 0) ∧ HoldsK tsk4 4 w' blk 0 ys.toArray ∧ Kept (fun j => j = blk) w w' := by
  have hcon := AnyQ.slices_SortFunc Tryz.sortTsk 4 Tryz.isAgg162 Tryz.sizeOf162 tsk4 tsk4_len tsk4_one byKeyV byKey_swo 91 #[] blk 0 cap xs.toArray w en_byKey (tsk4_lays blk 0 _ w) hH hblk (by simpa using hsz)
  have hcon' : Calls Tryz.prog 140 #[.slice (some ⟨blk, 0, none⟩) xs.toArray.size cap, .func (.func 91) #[] #[]] w _ := hcon
  rw [List.size_toArray] at hcon'
  refine hcon'.mono ?_
  rintro e w' ⟨rfl, d', n, os, ⟨hz, _, hp⟩, hs, rfl⟩
  have hz' : d'.size = xs.length := by rw [hz, List.size_toArray]
  refine ⟨rfl, d'.toList, ?_, ?_, ?_, sw_kept _ _ _ _ _ _ _ _⟩
  · have h1 : d'.extract 0 xs.length = d' := by rw [← hz']; exact Array.extract_size
    have h2 : xs.toArray.extract 0 xs.length = xs.toArray := by simp
    rw [h1, h2] at hp
    exact hp
  · rw [List.pairwise_iff_getElem]
    intro i j hi hj hij
    have h := hs i j (Nat.zero_le _) hij (by rw [← hz']; simpa using hj)
    have hi' : i < d'.size := by simpa using hi
    have hj' : j < d'.size := by simpa using hj
    rw [getElem!_pos d' i hi', getElem!_pos d' j hj'] at h
    unfold ltOf at h
    simpa using h
  · have := holdsK_sortWorldK_c tsk4 4 w blk 0 xs.toArray d' n os hH hblk hz
    simpa using this
theorem sort_none (a : Option Addr) (cap : Nat) (w : World) :
    Calls Tryz.prog 140 #[.slice a 0 cap, .func (.func 91) #[] #[]] w fun e w' => e = .returned (.tuple #[]) ∧ w' = w :=
  AnyF.slices_SortFunc_none (P := Tryz.prog) Tryz.sortTsk a cap (.func (.func 91) #[] #[]) w
end Go.Proofs.YtpbimdkclnekeaaGreat

namespace Go.Proofs.YtpbimdkclnekeaaGreat
open Go.RowKit Go.Maps Go.Shelf Go.Sort
set_option linter.unusedVariables false
theorem holds_of {w : World} {base g cap : Nat} {e : TypeId} {xs : List Tsk} (h : w.ownsRow base e 4 (.slice (some ⟨g, 0, none⟩) xs.length cap) xs.length (xs.flatMap tsk4)) : HoldsK tsk4 4 w g 0 xs.toArray := fun j hj => by
  have hj' : j < xs.length * 4 := by simpa [size_flatK] using hj
  rw [Nat.zero_add]
  refine ⟨?_, h.frozenAt j⟩
  rw [h.cellAt j hj', get_flatK _ _ _ _ (by simpa using hj')]
  have hi : j / 4 < xs.length := by omega
  have := flat_get tsk4_len xs (j / 4) xs[j / 4] (j % 4) (by simp [hi]) (by omega)
  rw [show j / 4 * 4 + j % 4 = j by omega] at this
  rw [this, getElem!_pos xs.toArray (j / 4) (by simpa using hi)]
  have h4 : j % 4 < (tsk4 xs[j / 4]).length := by rw [tsk4_len]; omega
  simp only [id, List.getElem_toArray]
  rw [getElem!_pos (tsk4 xs[j / 4]) (j % 4) h4, List.getElem?_eq_getElem h4]
set_option maxHeartbeats 1000000 in
theorem collect_any (gf : Nat) (lb : Array Value) (eg : ∀ args w, (callFunc gf args).run Tryz.prog w = .ok (.enter gf args) w) {N : Nat} {S : List Tsk → Prop} (w : World) (hN : N ≤ 1000000)
    (hseq : SeqO Fence.wide 6 Tryz.prog gf lb (fun x : Tsk => #[.agg #[.iface x.jt (.agg #[.int .i64 x.s.t, .int .i64 x.s.ser, .int .i64 x.s.win]), .int .i64 x.since, .int .i64 x.tries, .int .i64 x.rest]]) KeepsWalks S (fun _ => True) N 0 w) :
    Calls Tryz.prog 139 #[.func (.func gf) #[] lb] w fun e w' => ∃ xs a cap, S xs ∧ e = .returned (.slice a xs.length cap) ∧ w'.ownsRow w.heap.size 162 4 (.slice a xs.length cap) xs.length (xs.flatMap tsk4) ∧ Below w.heap.size w w' := by
  have HC := hide (apseq_any gf lb eg w hN hseq)
  clear hseq
  go_enter Tryz.func139, Tryz.ntmps139
  go_wp2_with fail
  refine (ud HC).mono ?_
  rintro e w' ⟨xs, v, hS, rfl, hown, hb⟩
  obtain ⟨a, cap, rfl⟩ := row_slice hown
  have HO := hide hown
  have HB := hide hb
  clear hown hb HC
  go_wp2_with fail
  go_ret
  exact ⟨xs, a, cap, hS, rfl, ud HO, ud HB⟩
set_option maxRecDepth 20000 in
set_option maxHeartbeats 1000000 in
theorem sfunc_any {w : World} {Bm b : Nat} {TL : List (Jk × Tsk)} (hBm : Bm < w.heap.size) (hm : w.cell? ⟨Bm, 0, none⟩ = some (.map (some b))) (hown : MapAt tasksM w b TL) (hlen : TL.length ≤ 1000000) :
    Calls Tryz.prog 90 #[.func (.func 133) #[] #[.pointer (some ⟨Bm, 0, none⟩)], .func (.func 91) #[] #[]] w fun e w' =>
      ∃ ts a cap, JobsOf TL ts ∧ e = .returned (.slice a ts.length cap) ∧ (ts ≠ [] → ∃ g, a = some ⟨g, 0, none⟩ ∧ g < w'.heap.size ∧ HoldsK tsk4 4 w' g 0 ts.toArray) ∧ Below w.heap.size w w' := by
  have HC := hide (collect_any _ _ en_tsk w hlen (itw_tsk id id Bm b TL (fun _ _ => rfl) w hBm hm hown))
  clear hm hown
  go_enter Tryz.func90, Tryz.ntmps90
  go_wp2_with fail
  refine (ud HC).mono ?_
  rintro e w1 ⟨xs, a, cap, ⟨ps, hp, hx⟩, rfl, hown, hb⟩
  have hxp : xs.Perm (TL.map (fun p => p.2)) := by rw [hx]; exact hp.map _
  clear HC hx hp
  have HXP := hide hxp
  have hxl : xs.length ≤ 1000000 := by rw [hxp.length_eq, List.length_map]; exact hlen
  clear hxp
  by_cases h0 : xs.length = 0
  · have hnil : xs = [] := List.length_eq_zero_iff.1 h0
    subst hnil
    have HS := hide (sort_none a cap w1)
    have HB := hide hb
    clear hown hb
    simp only [List.length_nil]
    go_wp2_with fail
    refine (ud HS).mono ?_
    rintro e w2 ⟨rfl, rfl⟩
    go_wp2_with fail
    go_ret
    exact ⟨[], a, cap, ⟨ud HXP, List.Pairwise.nil⟩, rfl, fun h => absurd rfl h, ud HB⟩
  · obtain ⟨g, cap', hv, hg, hgl⟩ := hown.form (by omega)
    injection hv with hv1 hv2 hv3
    subst hv1 hv3
    have HS := hide (sort_tsk g cap xs w1 (holds_of hown) hgl (by omega))
    have HB := hide hb
    clear hown hb
    go_wp2_with fail
    refine (ud HS).mono ?_
    rintro e w2 ⟨rfl, ys, hyp, hys, hyh, hk⟩
    have HK := hide hk
    have HY := hide hyh
    have HYP := hide hyp
    have HYS := hide hys
    have hyl : xs.length = ys.length := hyp.length_eq.symm
    rw [hyl]
    clear hk hyh HS hyp hyl hys
    go_wp2_with fail
    go_ret
    have hk := ud HK
    have hb := ud HB
    exact ⟨ys, some ⟨g, 0, none⟩, cap, ⟨(ud HYP).trans (ud HXP), (ud HYS).imp (fun h => by omega)⟩, rfl, fun _ => ⟨g, rfl, Nat.lt_of_lt_of_le hgl hk.size, ud HY⟩, hb.trans ⟨hk.os, hk.tape, hk.output, hk.size, fun j hj => hk.block j (Nat.lt_of_lt_of_le hj hb.size) (by omega)⟩⟩
end Go.Proofs.YtpbimdkclnekeaaGreat

namespace Go.Proofs.YtpbimdkclnekeaaGreat
open Go.RowKit Go.Maps Go.Shelf Go.Sort
set_option linter.unusedVariables false
theorem Tryz.infoJob : (Tryz.prog.info? 51).map (fun i => (i.zero, i.size, i.bytes)) = some (some (.agg #[.int .i64 0, .int .i64 0, .int .i64 0, .int .i64 0, .int .i64 0, .int .i64 0, .int .i64 0, .int .i64 0, .int .i64 0, .int .i64 0, .int .i64 0]), 11, 88) := by kernel_rfl
theorem push_job {w : World} {ops : Array Oper} {rest : List Oper} {o : Oper} {a : Act} {Q : Exit → Act → World → Prop} (hgd : o.guard = none) (s y : Operand)
    (ho : o.op = .call { callee := .builtin .append, args := #[s, y], argTypes := #[55, 55] }) (base : Nat) (v : Value) (QL : List (Tok × Lse)) (l : List Tsk) (x : Tsk) (n : Nat) (hs : a.eval s = v) (hown : w.ownsRow base 51 11 v n (l.flatMap (tellV QL)))
    (B1 : Nat) (hx : a.eval y = .slice (some ⟨B1, 0, none⟩) 1 1) (hB1 : w.heap[B1]? = some (.cells #[.int .i64 x.kd, .int .i64 x.s.t, .int .i64 x.s.ser, .int .i64 x.s.win, .int .i64 x.since, .int .i64 x.tries, .int .i64 x.rest, .int .i64 (jobO QL x).1.ep, .int .i64 (jobO QL x).1.num, .int .i64 (jobO QL x).2.1, .int .i64 (jobO QL x).2.2] 51 (0, 0))) (hl : n ≤ 1000000) (hbase : base ≤ w.heap.size)
    (h : ∀ g cap w', w'.ownsRow base 51 11 (.slice (some ⟨g, 0, none⟩) (n + 1) cap) (n + 1) ((l ++ [x]).flatMap (tellV QL)) → w.grownBy w' v.ownBlock → g < w'.heap.size → wpList Tryz.prog ops Q rest (a.put o.dst (.slice (some ⟨g, 0, none⟩) (n + 1) cap)) w') : wpList Tryz.prog ops Q (o :: rest) a w :=
  wpList_append_keep hgd s y 55 ho base 51 _ 11 88 Tryz.underlying55 Tryz.infoJob rfl (by decide) v n (l.flatMap (tellV QL)) hs hown ⟨B1, 0, none⟩ 1 1 (tellV QL x) hx rfl
    (World.news_of_block (cs := (tellV QL x).toArray) hB1) (tellV_one QL x) (by decide) (by simp only [maxLen]; omega) (by omega) hbase
    fun g cap w' h1 h2 h3 h4 h5 => h g cap w' (by rw [List.flatMap_append]; simpa using h1) h3 h5
set_option maxRecDepth 8000 in
set_option maxHeartbeats 4000000 in
theorem list_any {w : World} {b : Nat} {c : Cf} {tv : Value} {ep num : Int} {tb qb : Nat} {TL : List (Jk × Tsk)} {QL : List (Tok × Lse)} (h : BoardAt w b c tv ep num tb qb TL QL) (hu : (QL.map (fun q => q.2.job)).Nodup) (hlen : TL.length ≤ 1000000) :
    Calls Tryz.prog 40 #[.pointer (some ⟨b, 0, none⟩)] w fun e w' => ∃ ts a cap, JobsOf TL ts ∧ e = .returned (.slice a ts.length cap) ∧ w'.ownsRow w.heap.size 51 11 (.slice a ts.length cap) ts.length (ts.flatMap (tellV QL)) ∧ Below w.heap.size w w' := by
  have hbl := h.lt
  have c9 := h.cell9
  have HV := hide (it_tsk0 tb w)
  have b0 := rlast w (.cells #[.map (some tb)] 154)
  have hb0 : Below w.heap.size w (w.alloc (.cells #[.map (some tb)] 154)) := (Below.refl _ _).alloc (Nat.le_refl _) _
  have HS := hide (sfunc_any (w := w.alloc (.cells #[.map (some tb)] 154)) (Bm := w.heap.size) (b := tb) (TL := TL) (by rw [rsize]; omega) (by rw [rcell b0]; rfl) (h.later hb0).tasks hlen)
  have H := hide h
  have HB0 := hide hb0
  clear h b0 hb0
  go_enter Tryz.func40, Tryz.ntmps40
  go_wp2_with fail
  refine (ud HV).mono ?_
  rintro e w0 ⟨rfl, rfl⟩
  go_wp2_with fail
  refine (ud HS).mono ?_
  rintro e w1 ⟨ts, a, cap, hJ, rfl, hrow, hb1⟩
  have hb := (ud HB0).trans (hb1.mono (ud HB0).size)
  clear c9 HV HS hb1
  have HJ := hide hJ
  have HR := hide hrow
  have HB := hide hb
  clear hJ hrow hb
  go_wp2_with fail
  have hz1 : w.heap.size ≤ w1.heap.size := (ud HB).size
  have htl : ts.length ≤ 1000000 := by rw [(ud HJ).len]; exact hlen
  go_loopw [3, 5, 13] (fun o _ y wr => ∃ (k : Nat), k ≤ ts.length ∧ y = .int .i64 k ∧ wr.ownsRow w1.heap.size 51 11 o k ((ts.take k).flatMap (tellV QL)) ∧ RowKit.Below w1.heap.size w1 wr) (fun _ _ y _ => ts.length - (intOf y).toNat)
  case atStart => exact ⟨0, Nat.zero_le _, rfl, World.ownsRow_nil _ _ _ _, Below.refl _ _⟩
  case round =>
    obtain ⟨k, hk, rfl, hz, hb⟩ := hrel
    obtain ⟨az, cz, hzv⟩ := row_slice hz
    subst hzv
    by_cases hkl : k < ts.length
    · obtain ⟨g, hga, hgl, hH⟩ := ud HR (fun e => by rw [e] at hkl; simp at hkl)
      subst hga
      obtain ⟨x, hx⟩ := rget_of_lt hkl
      have hkli : (k : Int) < ts.length := by omega
      have hgx : ∀ j, j < 4 → wr.cell? ⟨g, k * 4 + j, none⟩ = some (tsk4 x)[j]! := fun j hj => by
        have h1 := (hH.cell (i := k) (c := j) (by simpa using hkl) hj).1
        rw [Nat.zero_add] at h1
        rw [hb.cell (p := ⟨g, k * 4 + j, none⟩) hgl, h1]
        obtain ⟨hl2, hx2⟩ := List.getElem?_eq_some_iff.1 hx
        rw [getElem!_pos ts.toArray k (by simpa using hkl)]
        simp only [List.getElem_toArray, hx2]
      have x0 : wr.cell? ⟨g, k * 4, none⟩ = some (.iface x.jt (.agg #[.int .i64 x.s.t, .int .i64 x.s.ser, .int .i64 x.s.win])) := hgx 0 (by omega)
      have x1 : wr.cell? ⟨g, k * 4 + 1, none⟩ = some (.int .i64 x.since) := hgx 1 (by omega)
      have x2 : wr.cell? ⟨g, k * 4 + 2, none⟩ = some (.int .i64 x.tries) := hgx 2 (by omega)
      have x3 : wr.cell? ⟨g, k * 4 + 3, none⟩ = some (.int .i64 x.rest) := hgx 3 (by omega)
      have hgr := Nat.lt_of_lt_of_le hgl hb.size
      have hba : RowKit.Below wr.heap.size wr (wr.alloc (.cells #[.iface x.jt (.agg #[.int .i64 x.s.t, .int .i64 x.s.ser, .int .i64 x.s.win]), .int .i64 x.since, .int .i64 x.tries, .int .i64 x.rest] 162)) := (Below.refl _ _).alloc (Nat.le_refl _) _
      have hbw : RowKit.Below w.heap.size w wr := (ud HB).trans (hb.mono hz1)
      have hBd := ((ud H).later hbw).later hba
      have HT := hide (tell_all hBd hu x)
      have hq0 := rlast wr (.cells #[.iface x.jt (.agg #[.int .i64 x.s.t, .int .i64 x.s.ser, .int .i64 x.s.win]), .int .i64 x.since, .int .i64 x.tries, .int .i64 x.rest] 162)
      have e0 : (wr.alloc (.cells #[.iface x.jt (.agg #[.int .i64 x.s.t, .int .i64 x.s.ser, .int .i64 x.s.win]), .int .i64 x.since, .int .i64 x.tries, .int .i64 x.rest] 162)).cell? ⟨wr.heap.size, 0, none⟩ = some (.iface x.jt (.agg #[.int .i64 x.s.t, .int .i64 x.s.ser, .int .i64 x.s.win])) := by rw [rcell hq0]; rfl
      have e1 : (wr.alloc (.cells #[.iface x.jt (.agg #[.int .i64 x.s.t, .int .i64 x.s.ser, .int .i64 x.s.win]), .int .i64 x.since, .int .i64 x.tries, .int .i64 x.rest] 162)).cell? ⟨wr.heap.size, 1, none⟩ = some (.int .i64 x.since) := by rw [rcell hq0]; rfl
      have e2 : (wr.alloc (.cells #[.iface x.jt (.agg #[.int .i64 x.s.t, .int .i64 x.s.ser, .int .i64 x.s.win]), .int .i64 x.since, .int .i64 x.tries, .int .i64 x.rest] 162)).cell? ⟨wr.heap.size, 2, none⟩ = some (.int .i64 x.tries) := by rw [rcell hq0]; rfl
      have e3 : (wr.alloc (.cells #[.iface x.jt (.agg #[.int .i64 x.s.t, .int .i64 x.s.ser, .int .i64 x.s.win]), .int .i64 x.since, .int .i64 x.tries, .int .i64 x.rest] 162)).cell? ⟨wr.heap.size, 3, none⟩ = some (.int .i64 x.rest) := by rw [rcell hq0]; rfl
      have HZ := hide hz
      have HBB := hide hb
      have HBA := hide hba
      have HX := hide hx
      clear hz hb hba hx hBd hq0 hH hgx HR hbw
      go_wp2_with fail
      refine (ud HT).mono ?_
      rintro e w2 ⟨he, hb2⟩
      subst he
      unfold tellV
      have HB2 := hide hb2
      have HZ2 := hide (owns_kept (owns_kept (ud HZ) (Kept.of_below (f := fun _ => False) (ud HBA)) (fun _ _ e => e)) (Kept.of_below (f := fun _ => False) hb2) (fun _ _ e => e))
      have hs2 : w1.heap.size ≤ w2.heap.size := Nat.le_trans (ud HBB).size (Nat.le_trans (ud HBA).size hb2.size)
      clear hb2 HT e0 e1 e2 e3 x0 x1 x2 x3
      go_wp2_with (first | (at_builtin; refine push_job rfl _ _ rfl w1.heap.size _ QL (ts.take k) x k rfl ((ud HZ2).alloc _) w2.heap.size rfl (rlast _ _) ?hll ?hbb ?_; (case hll => omega); (case hbb => (rw [rsize]; omega)); intro g2 cap2 w3 hown hgrow hlt3; have HOW := hide hown; have HGR := hide hgrow; clear hown hgrow) | fail)
      go_roundw
      case rel =>
        obtain ⟨hl2, hx2⟩ := List.getElem?_eq_some_iff.1 (ud HX)
        refine ⟨k + 1, by omega, by go_num, ?_, ?_⟩
        · rw [List.take_succ_eq_append_getElem hl2, hx2]; exact ud HOW
        · have hg : (w2.alloc (.cells #[.int .i64 x.kd, .int .i64 x.s.t, .int .i64 x.s.ser, .int .i64 x.s.win, .int .i64 x.since, .int .i64 x.tries, .int .i64 x.rest, .int .i64 (jobO QL x).1.ep, .int .i64 (jobO QL x).1.num, .int .i64 (jobO QL x).2.1, .int .i64 (jobO QL x).2.2] 51)).grownBy w3 (Value.slice az k cz).ownBlock := ud HGR
          have hbb : RowKit.Below w1.heap.size w1 w2 := (ud HBB).trans (((ud HBA).mono (ud HBB).size).trans ((ud HB2).mono (Nat.le_trans (ud HBB).size (ud HBA).size)))
          exact (hbb.alloc hbb.size _).grown hg (by rw [rsize]; omega) (fun j e => ((ud HZ2).lt j e).1)
      case measure => simp [intOf]; omega
    · have hkk : k = ts.length := by omega
      subst hkk
      have hnl : decide ((ts.length : Int) < ts.length) = false := by simp
      have HZ := hide hz
      have HBB := hide hb
      clear hz hb HR
      go_wp2_with fail
      go_ret
      have hz := ud HZ
      rw [List.take_length] at hz
      exact ⟨ts, az, cz, ud HJ, rfl, owns_base hz hz1, (ud HB).trans ((ud HBB).mono hz1)⟩
end Go.Proofs.YtpbimdkclnekeaaGreat

namespace Go.Proofs.YtpbimdkclnekeaaGreat
open Go.RowKit Go.Maps Go.Shelf
set_option linter.unusedVariables false
set_option maxHeartbeats 1000000 in
theorem mjobs_any {w : World} {i : Ids} {c : Cf} {ep : Int} {m : MS} (h : MillAt w i c ep m) (hu : (m.QL.map (fun q => q.2.job)).Nodup) (hlen : m.TL.length ≤ 1000000) :
    Calls Tryz.prog 17 #[.pointer (some ⟨i.x, 0, none⟩)] w fun e w' => ∃ ts a cap, JobsOf m.TL ts ∧ e = .returned (.slice a ts.length cap) ∧ w'.ownsRow w.heap.size 51 11 (.slice a ts.length cap) ts.length (ts.flatMap (tellV m.QL)) ∧ Below w.heap.size w w' := by
  have hl := h.lt
  obtain ⟨-, -, -, -, -, -, -, -, -, -, c10⟩ := h.cells
  have HL := hide (list_any h.board hu hlen)
  clear h
  go_enter Tryz.func17, Tryz.ntmps17
  go_wp2_with fail
  refine (ud HL).mono ?_
  rintro e w1 ⟨ts, a, cap, hJ, rfl, hrow, hb1⟩
  have HR := hide hrow
  have HB := hide hb1
  clear hrow hb1 HL
  go_wp2_with fail
  go_ret
  exact ⟨ts, a, cap, hJ, rfl, ud HR, ud HB⟩
end Go.Proofs.YtpbimdkclnekeaaGreat
