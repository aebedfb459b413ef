/- Walks: Names of the program's disk. -/
import Derived.Test.YtndhpgciopcncaaDisk8
import Derived.Test.YtndhpgciopcncaaNames0
namespace Go.Proofs.Ytndhpgciopcncaa
open Go.RowKit
set_option linter.unusedVariables false

theorem Try.infoString : (Try.prog.info? 9).map (fun i => (i.zero, i.size, i.bytes)) = some (some (.string ByteArray.empty), 1, 16) := by kernel_rfl

def nmCells (l : List ByteArray) : List Value := l.map .string
theorem nmCells_length (l : List ByteArray) : (nmCells l).length = l.length := by simp [nmCells]
theorem nmCells_get {l : List ByteArray} {k : Nat} {x : ByteArray} (h : l[k]? = some x) : (nmCells l)[k]? = some (.string x) := by simp [nmCells, h]
theorem nmCells_append (l r : List ByteArray) : nmCells (l ++ r) = nmCells l ++ nmCells r := by simp [nmCells]
theorem nmCells_set (l : List ByteArray) (k : Nat) (x : ByteArray) : nmCells (l.set k x) = (nmCells l).set k (.string x) := by simp [nmCells, List.map_set]
theorem nmCells_one (l : List ByteArray) : ∀ v ∈ nmCells l, v.oneCell' = true := by
  intro v hv; simp only [nmCells, List.mem_map] at hv; obtain ⟨x, _, rfl⟩ := hv; rfl

theorem push_name {w : World} {ops : Array Oper} {rest : List Oper} {o : Oper} {a : Act} {Q : Exit → Act → World → Prop} (hgd : o.guard = none) (s x : Operand)
    (ho : o.op = .call { callee := .builtin .append, args := #[s, x], argTypes := #[34, 34] }) (base : Nat) (v : Value) (l r : List ByteArray) (hs : a.eval s = v) (hown : w.ownsRow base 9 1 v l.length (nmCells l))
    (B1 m : Nat) (hx : a.eval x = .slice (some ⟨B1, 0, none⟩) m m) (hB1 : w.heap[B1]? = some (.cells (nmCells r).toArray 9 (0, 0))) (hm : r.length = m) (hr : 0 < m) (hl : l.length + m ≤ 1099511627776) (hbase : base ≤ w.heap.size)
    (h : ∀ g cap w', w'.ownsRow base 9 1 (.slice (some ⟨g, 0, none⟩) (l.length + m) cap) (l ++ r).length (nmCells (l ++ r)) → w'.ownsRow base 9 1 v l.length (nmCells l) → w.grownBy w' v.ownBlock → (v.ownBlock = some g ∨ g = w.heap.size) → g < w'.heap.size → wpList Try.prog ops Q rest (a.put o.dst (.slice (some ⟨g, 0, none⟩) (l.length + m) cap)) w') : wpList Try.prog ops Q (o :: rest) a w := by
  subst hm
  refine wpList_append_keep hgd s x 34 ho base 9 _ 1 16 Try.underlying34 Try.infoString rfl (by decide) v l.length (nmCells l) hs hown ⟨B1, 0, none⟩ r.length r.length (nmCells r) hx (by rw [nmCells_length]; omega)
    (World.news_of_block (cs := (nmCells r).toArray) hB1) (nmCells_one r) hr (by simp only [maxLen]; omega) (by omega) hbase
    fun g cap w' h1 h2 h3 h4 h5 => h g cap w' ?_ h2 h3 h4 h5
  rw [nmCells_append, List.length_append]; exact h1

theorem get_of_lt' {l : List ByteArray} {k : Nat} (h : k < l.length) : ∃ f, l[k]? = some f := ⟨_, List.getElem?_eq_getElem h⟩

/-- the names of the first k files. -/
def namesTo (l : List FS) (k : Nat) : List ByteArray := (l.take k).foldl (fun acc f => insS f.name acc) []
theorem namesTo_zero (l : List FS) : namesTo l 0 = [] := by simp [namesTo]
theorem namesTo_succ {l : List FS} {k : Nat} {f : FS} (h : l[k]? = some f) : namesTo l (k + 1) = insS f.name (namesTo l k) := by
  simp [namesTo, take_succ_of h, List.foldl_append]
theorem insS_length (x : ByteArray) : ∀ l : List ByteArray, (insS x l).length = l.length + 1
  | [] => rfl
  | y :: l => by rw [insS]; split <;> simp [insS_length x l]
theorem namesTo_sorted (l : List FS) : ∀ k, k ≤ l.length → sortedS (namesTo l k) ∧ (namesTo l k).length = k
  | 0, _ => by rw [namesTo_zero]; exact ⟨sortedS_nil, rfl⟩
  | k + 1, h => by
    obtain ⟨f, hf⟩ := get_of_lt (l := l) (k := k) (by omega)
    obtain ⟨h1, h2⟩ := namesTo_sorted l k (by omega)
    rw [namesTo_succ hf]
    exact ⟨sortedS_ins _ h1, by rw [insS_length, h2]⟩
def namesOf (S : DS) : List ByteArray := namesTo S.files S.files.length

theorem below_drewN {B : Nat} {a w : World} (h : Below B a w) (n : Nat) : Below B a (w.drewN n) := ⟨h.os, h.tape, h.output, h.size, h.block⟩
theorem owns_drewN {w : World} {base size n m : Nat} {e : TypeId} {v : Value} {xs : List Value} (h : w.ownsRow base e size v n xs) : (w.drewN m).ownsRow base e size v n xs := h

set_option maxHeartbeats 4000000 in
theorem names_any (B : Nat) (p : Nat) (S : DS) (fs : Value) (w : World) (N : Nat) (hN : N ≤ 1099511626776) (hn : S.files.length ≤ N) (h : DiskAt 58 64 B w p S fs) :
    Calls Try.prog 35 #[.pointer (some ⟨p, 0, none⟩)] w fun e w' => ∃ v, e = .returned v ∧ w'.ownsRow w.heap.size 9 1 v (namesOf S).length (nmCells (namesOf S)) ∧ Below w.heap.size w w' := by
  obtain ⟨a, cap0, rfl⟩ := slice_of h.row
  have c0 := h.c0
  go_enter Try.func35, Try.ntmps35
  go_wp2
  go_loopw [3, 5, 6, 7, 13] (fun v _ _ _ y wr => ∃ (k : Nat), k ≤ S.files.length ∧ y = .int .i64 k ∧ wr.ownsRow w.heap.size 9 1 v (namesTo S.files k).length (nmCells (namesTo S.files k)) ∧ Below w.heap.size w wr) (fun _ _ _ _ y _ => S.files.length - (intOf y).toNat)
  case atStart => exact ⟨0, Nat.zero_le _, rfl, by rw [namesTo_zero]; exact owns_nil _ _ _ _, Below.refl _ _⟩
  case round =>
    obtain ⟨k, hk, rfl, hv, hb⟩ := hrel
    obtain ⟨hsort, hnl⟩ := namesTo_sorted S.files k hk
    have h2 := h.later hb
    have hbs := hb.size
    by_cases hlt : k < S.files.length
    · obtain ⟨f, hf⟩ := get_of_lt hlt
      obtain ⟨g, cap', hv', -⟩ := h2.files (by omega)
      injection hv' with hv1 hv2 hv3
      subst hv1
      obtain ⟨x0, x1, x2, xf⟩ := h2.at hf
      have HNS := hide (namesTo_succ hf)
      have hkn : (k : Int) < S.files.length := by omega
      clear hf hv2 hv3 xf c0
      generalize hacc : namesTo S.files k = acc at hv hsort hnl HNS
      have HACC := hide hacc
      clear hacc
      have HNL := hide hnl
      have hnl2 : acc.length ≤ N := by omega
      clear hnl
      generalize hx : f.name = x at x0 HNS
      clear hx
      go_wp2_with (first
        | (at_builtin; refine push_name rfl _ _ rfl w.heap.size _ acc [x] rfl ((hv.alloc _).alloc _) (wr.heap.size + 1) 1 rfl (heap_second _ _ _) rfl (by decide) ?hll ?hbb ?_; (case hll => omega); (case hbb => (rw [size_second]; omega)); intro g2 cap2 w3 hown hold hgrow hat hlt3)
        | fail)
      have hb3 : Below w.heap.size w w3 := ((hb.alloc hbs _).alloc (by rw [size_first]; omega) _).grown hgrow (by rw [size_second]; omega) (fun k hk => (hv.lt k hk).1)
      have hown2 : w3.ownsRow w.heap.size 9 1 (.slice (some ⟨g2, 0, none⟩) (acc.length + 1) cap2) (acc.length + 1) (nmCells (slideS x acc acc.length)) := by rw [slideS_full]; simpa using hown
      clear hown hold hgrow hat hv x0 x1 x2 h2
      go_loopw [6, 7] (fun y _ wr => ∃ (j : Nat), j ≤ acc.length ∧ y = .int .i64 j ∧ wr.ownsRow w.heap.size 9 1 (.slice (some ⟨g2, 0, none⟩) (acc.length + 1) cap2) (acc.length + 1) (nmCells (slideS x acc j)) ∧ Below w.heap.size w wr ∧ ∀ z, acc[j]? = some z → ltS x z = true) (fun y _ _ => (intOf y).toNat)
      case atStart => exact ⟨acc.length, Nat.le_refl _, rfl, hown2, hb3, fun z hz => by simp at hz⟩
      case round =>
        clear hb hown2 hb3 hlt3 hbs
        obtain ⟨j, hj, rfl, hv, hb, hgt⟩ := hrel
        have HGT := hide hgt
        clear hgt
        have hbs := hb.size
        have hg2 := (hv.lt g2 rfl).1
        by_cases hj0 : j = 0
        · subst hj0
          have HST := hide (slideS_stop hsort hj (fun i y hi => by omega) (unhide HGT))
          go_wp2_with fail
          go_quiet (fail)
          go_wp2_with fail
          go_roundw
          case rel => exact ⟨k + 1, by omega, by go_num, by rw [unhide HNS, ← unhide HST, slideS_length]; exact owns_drewN hv, hb.trans (by exact ⟨rfl, rfl, rfl, Nat.le_refl _, fun _ _ => rfl⟩)⟩
          case measure => simp [intOf]; omega
        · obtain ⟨i, rfl⟩ : ∃ i, j = i + 1 := ⟨j - 1, by omega⟩
          obtain ⟨y, hy⟩ := get_of_lt' (l := acc) (k := i) (by omega)
          have y0 : wr.cell? ⟨g2, i + 1, none⟩ = some (.string x) := by rw [hv.cellAt _ (by omega)]; exact nmCells_get (slideS_at hj)
          have y1 : wr.cell? ⟨g2, i, none⟩ = some (.string y) := by rw [hv.cellAt _ (by omega)]; exact nmCells_get (slideS_before hy)
          have yf := fun o => hv.frozenAt o
          have hi1 : (i : Int) + 1 < (acc.length : Int) + 1 := by omega
          have hi2 : (i : Int) < (acc.length : Int) + 1 := by omega
          have hi3 : (0 : Int) < (i : Int) + 1 := by omega
          have HY := hide hy
          clear hy hj0
          cases he : ltS x y
          · have he' : Op.bytesLess x.toList y.toList = false := he
            have HST := hide (slideS_stop hsort hj (fun i' y' hi' hy' => by have : i' = i := by omega
                                                                            subst this; rw [unhide HY] at hy'; cases hy'; exact he) (unhide HGT))
            clear he
            go_wp2_with fail
            go_quiet (fail)
            go_wp2_with fail
            go_roundw
            case rel => exact ⟨k + 1, by omega, by go_num, by rw [unhide HNS, ← unhide HST, slideS_length]; exact owns_drewN hv, hb.trans (by exact ⟨rfl, rfl, rfl, Nat.le_refl _, fun _ _ => rfl⟩)⟩
            case measure => simp [intOf]; omega
          · have he' : Op.bytesLess x.toList y.toList = true := he
            have HE := hide he
            have HSS := hide (slideS_step (x := x) (unhide HY))
            clear he
            go_wp2_with fail
            go_quiet (fail)
            go_wp2_with fail
            obtain ⟨u1, _⟩ := (owns_drewN (m := nq) hv).stored (i + 1) (.string y)
            obtain ⟨u3, _⟩ := u1.stored i (.string x)
            have hbd : Below w.heap.size w (wr.drewN nq) := hb.trans ⟨rfl, rfl, rfl, Nat.le_refl _, fun _ _ => rfl⟩
            exact ⟨⟨i, by omega, rfl, by rw [unhide HSS, nmCells_set, nmCells_set]; exact u3, (hbd.setCell (p := ⟨g2, i + 1, none⟩) hg2 _).setCell (p := ⟨g2, i, none⟩) hg2 _, fun z hz => by rw [unhide HY] at hz; cases hz; exact unhide HE⟩, by simp [intOf]⟩
    · have e : k = S.files.length := by omega
      rw [e] at hv
      obtain ⟨a5, cap5, rfl⟩ := owns_slice hv
      clear e
      go_wp2_with fail
      go_ret
      exact ⟨_, rfl, hv, hb⟩

set_option maxHeartbeats 4000000 in
theorem rnames_any (B : Nat) (p : Nat) (S : DS) (fs : Value) (w : World) (N : Nat) (hN : N ≤ 1099511626776) (hn : S.files.length ≤ N) (h : DiskAt 61 66 B w p S fs) :
    Calls Try.prog 36 #[.pointer (some ⟨p, 0, none⟩)] w fun e w' => ∃ v, e = .returned v ∧ w'.ownsRow w.heap.size 9 1 v (namesOf S).length (nmCells (namesOf S)) ∧ Below w.heap.size w w' := by
  obtain ⟨a, cap0, rfl⟩ := slice_of h.row
  have c0 := h.c0
  go_enter Try.func36, Try.ntmps36
  go_wp2
  go_loopw [3, 4, 5, 6, 7] (fun v y _ _ _ wr => ∃ (k : Nat), k ≤ S.files.length ∧ y = .int .i64 k ∧ wr.ownsRow w.heap.size 9 1 v (namesTo S.files k).length (nmCells (namesTo S.files k)) ∧ Below w.heap.size w wr) (fun _ y _ _ _ _ => S.files.length - (intOf y).toNat)
  case atStart => exact ⟨0, Nat.zero_le _, rfl, by rw [namesTo_zero]; exact owns_nil _ _ _ _, Below.refl _ _⟩
  case round =>
    obtain ⟨k, hk, rfl, hv, hb⟩ := hrel
    obtain ⟨hsort, hnl⟩ := namesTo_sorted S.files k hk
    have h2 := h.later hb
    have d0 := h2.c0
    have hbs := hb.size
    clear c0
    by_cases hlt : k < S.files.length
    · obtain ⟨f, hf⟩ := get_of_lt hlt
      obtain ⟨g, cap', hv', -⟩ := h2.files (by omega)
      injection hv' with hv1 hv2 hv3
      subst hv1
      have HNS := hide (namesTo_succ hf)
      have HFF := hide hf
      have hkn : (k : Int) < S.files.length := by omega
      clear hf hv2 hv3
      generalize hacc : namesTo S.files k = acc at hv hsort hnl HNS
      clear hacc
      have hnl2 : acc.length ≤ N := by omega
      clear hnl
      obtain ⟨a3, cap3, rfl⟩ := owns_slice hv
      go_wp2_with fail
      generalize hx : f.name = x at HNS
      have HX := hide hx
      clear hx
      have x0 : wr.cell? ⟨g, k * 3, none⟩ = some (.string x) := by rw [← unhide HX]; exact (h2.at (unhide HFF)).1
      have hgl : g < wr.heap.size := (h2.row.lt g rfl).2
      have hpl := h2.lt
      obtain ⟨W0, rfl⟩ : ∃ W0, W0 = wr := ⟨wr, rfl⟩
      go_loopw [5, 6, 7] (fun l b y wr => ∃ (j : Nat), j ≤ acc.length ∧ y = .int .i64 j ∧ b = .bool (anyGt x (acc.take j)) ∧ wr.ownsRow W0.heap.size 9 1 l (partS x (acc.take j)).length (nmCells (partS x (acc.take j))) ∧ Below W0.heap.size W0 wr) (fun _ _ y _ => acc.length - (intOf y).toNat)
      case atStart => exact ⟨0, Nat.zero_le _, rfl, by simp [partS_nil], by simp only [List.take_zero, partS_nil]; exact owns_nil _ _ _ _, Below.refl _ _⟩
      case round =>
        obtain ⟨j, hj, rfl, rfl, hl, hbi⟩ := hrel
        have hbis := hbi.size
        have e0 := (hbi.cell (p := ⟨p, 0, none⟩) hpl).trans d0
        have e1 := (hbi.cell (p := ⟨g, k * 3, none⟩) hgl).trans x0
        obtain ⟨a6, cap6, rfl⟩ := owns_slice hl
        have hpl2 : (partS x (acc.take j)).length ≤ acc.length + 1 := by
          unfold partS; split
          · rw [insS_length]; have := List.length_take_le j acc; omega
          · have := List.length_take_le j acc; omega
        have hpl0 : p < wr.heap.size := by omega
        have hgl0 : g < wr.heap.size := by omega
        clear d0 x0
        by_cases hjl : j < acc.length
        · obtain ⟨y, hy⟩ := get_of_lt' hjl
          obtain ⟨ga, capa, hva, _, hgal⟩ := hv.form (by omega)
          injection hva with hva1 hva2 hva3
          subst hva1
          have e2 : wr.cell? ⟨ga, j, none⟩ = some (.string y) := (hbi.cell (p := ⟨ga, j, none⟩) hgal).trans (by rw [hv.cellAt _ (by omega)]; exact nmCells_get hy)
          have hjn : (j : Int) < acc.length := by omega
          have hgal0 : ga < wr.heap.size := by omega
          have htk : acc.take (j + 1) = acc.take j ++ [y] := by rw [List.take_add_one, hy]; rfl
          have HTK := hide htk
          clear hy htk hva2 hva3
          cases hin : anyGt x (acc.take j)
          · cases hA : Op.bytesLess y.toList x.toList
            · cases hB : (y.toList == x.toList)
              · have hlt' : ltS x y = true := by rw [← gtS_iff, hA, hB]; rfl
                have HPN := hide (partS_new hin hlt')
                clear hin hlt'
                go_wp2_with fail
                go_quiet (fail)
                go_wp2_with (first
                  | (at_builtin; refine push_name rfl _ _ rfl W0.heap.size _ (partS x (acc.take j)) [x] rfl ((owns_drewN hl).alloc _) wr.heap.size 1 rfl (heap_alloc_last _ _) rfl (by decide) ?hll ?hbb ?_; (case hll => omega); (case hbb => (rw [size_first]; exact Nat.le_succ_of_le hbis)); intro g2 cap2 w3 hown hold hgrow hat hlt3; have hb3 : Below W0.heap.size wr w3 := ((below_drewN (Below.refl _ _) nq).alloc hbis _).grown hgrow (by rw [size_first]; exact Nat.le_succ_of_le hbis) (fun k hk => (hl.lt k hk).1); have f2 := (hb3.cell (p := ⟨ga, j, none⟩) hgal).trans e2; have hz3 : W0.heap.size ≤ w3.heap.size := Nat.le_trans hbis hb3.size)
                  | (at_builtin; refine push_name rfl _ _ rfl W0.heap.size _ ((partS x (acc.take j)) ++ [x]) [y] rfl (hown.alloc _) w3.heap.size 1 rfl (heap_alloc_last _ _) rfl (by decide) ?hll2 ?hbb2 ?_; (case hll2 => (rw [List.length_append, List.length_singleton]; omega)); (case hbb2 => (rw [size_first]; exact Nat.le_succ_of_le hz3)); intro g4 cap4 w4 hown4 hold4 hgrow4 hat4 hlt4)
                  | fail)
                have hb4 : Below W0.heap.size W0 w4 := ((hbi.trans hb3).alloc hz3 _).grown hgrow4 (by rw [size_first]; exact Nat.le_succ_of_le hz3) (fun k hk => (hown.lt k hk).1)
                exact ⟨⟨j + 1, by omega, by go_num, by rw [unhide HTK, (unhide HPN).2], by rw [unhide HTK, (unhide HPN).1]; simpa using hown4, hb4⟩, by simp [intOf]; omega⟩
              · have hlt' : ltS x y = false := by rw [← gtS_iff, hA, hB]; rfl
                have HPN := hide (partS_old hin hlt')
                clear hin hlt'
                go_wp2_with fail
                go_quiet (fail)
                go_wp2_with (first
                  | (at_builtin; refine push_name rfl _ _ rfl W0.heap.size _ (partS x (acc.take j)) [y] rfl ((owns_drewN hl).alloc _) wr.heap.size 1 rfl (heap_alloc_last _ _) rfl (by decide) ?hll ?hbb ?_; (case hll => omega); (case hbb => (rw [size_first]; exact Nat.le_succ_of_le hbis)); intro g2 cap2 w3 hown hold hgrow hat hlt3)
                  | fail)
                have hb3 : Below W0.heap.size W0 w3 := (hbi.trans ((below_drewN (Below.refl _ _) nq).alloc hbis _)).grown hgrow (by rw [size_first]; exact Nat.le_succ_of_le hbis) (fun k hk => (hl.lt k hk).1)
                exact ⟨⟨j + 1, by omega, by go_num, by rw [unhide HTK, (unhide HPN).2], by rw [unhide HTK, (unhide HPN).1]; simpa using hown, hb3⟩, by simp [intOf]; omega⟩
            · have hlt' : ltS x y = false := by rw [← gtS_iff, hA]; rfl
              have HPN := hide (partS_old hin hlt')
              clear hin hlt'
              go_wp2_with fail
              go_quiet (fail)
              go_wp2_with (first
                | (at_builtin; refine push_name rfl _ _ rfl W0.heap.size _ (partS x (acc.take j)) [y] rfl ((owns_drewN hl).alloc _) wr.heap.size 1 rfl (heap_alloc_last _ _) rfl (by decide) ?hll ?hbb ?_; (case hll => omega); (case hbb => (rw [size_first]; exact Nat.le_succ_of_le hbis)); intro g2 cap2 w3 hown hold hgrow hat hlt3)
                | fail)
              have hb3 : Below W0.heap.size W0 w3 := (hbi.trans ((below_drewN (Below.refl _ _) nq).alloc hbis _)).grown hgrow (by rw [size_first]; exact Nat.le_succ_of_le hbis) (fun k hk => (hl.lt k hk).1)
              exact ⟨⟨j + 1, by omega, by go_num, by rw [unhide HTK, (unhide HPN).2], by rw [unhide HTK, (unhide HPN).1]; simpa using hown, hb3⟩, by simp [intOf]; omega⟩
          · have HPN := hide (partS_in (y := y) hin)
            clear hin
            go_wp2_with fail
            go_quiet (fail)
            go_wp2_with (first
              | (at_builtin; refine push_name rfl _ _ rfl W0.heap.size _ (partS x (acc.take j)) [y] rfl ((owns_drewN hl).alloc _) wr.heap.size 1 rfl (heap_alloc_last _ _) rfl (by decide) ?hll ?hbb ?_; (case hll => omega); (case hbb => (rw [size_first]; exact Nat.le_succ_of_le hbis)); intro g2 cap2 w3 hown hold hgrow hat hlt3)
              | fail)
            have hb3 : Below W0.heap.size W0 w3 := (hbi.trans ((below_drewN (Below.refl _ _) nq).alloc hbis _)).grown hgrow (by rw [size_first]; exact Nat.le_succ_of_le hbis) (fun k hk => (hl.lt k hk).1)
            exact ⟨⟨j + 1, by omega, by go_num, by rw [unhide HTK, (unhide HPN).2], by rw [unhide HTK, (unhide HPN).1]; simpa using hown, hb3⟩, by simp [intOf]; omega⟩
        · have e : j = acc.length := by omega
          subst e
          have hbw : Below w.heap.size w wr := hb.trans (hbi.mono hbs)
          rw [List.take_length] at hl hpl2 ⊢
          clear hjl hj
          cases hin : anyGt x acc
          · have HI := hide (insS_none hin)
            have HPS : Hid (partS x acc = acc) := by show _ = _; simp [partS, hin]
            go_wp2_with (first
              | (at_builtin; refine push_name rfl _ _ rfl W0.heap.size _ (partS x acc) [x] rfl (hl.alloc _) wr.heap.size 1 rfl (heap_alloc_last _ _) rfl (by decide) ?hll ?hbb ?_; (case hll => omega); (case hbb => (rw [size_first]; exact Nat.le_succ_of_le hbis)); intro g2 cap2 w3 hown hold hgrow hat hlt3)
              | fail)
            have hb3 : Below w.heap.size w w3 := (hbw.alloc (by omega) _).grown hgrow (by rw [size_first]; omega) (fun k hk => by have := (hl.lt k hk).1; omega)
            have hfin := owns_base hown hbs
            rw [unhide HPS, ← unhide HI, ← unhide HNS] at hfin
            rw [unhide HPS]
            exact ⟨⟨k + 1, by omega, by go_num, hfin, hb3⟩, by simp [intOf]; omega⟩
          · have HPS : Hid (partS x acc = insS x acc) := by show _ = _; simp [partS, hin]
            go_wp2_with fail
            have hfin := owns_base hl hbs
            rw [unhide HPS, ← unhide HNS] at hfin
            rw [unhide HPS, ← unhide HNS]
            exact ⟨⟨k + 1, by omega, by go_num, hfin, hbw⟩, by simp [intOf]; omega⟩
    · have e : k = S.files.length := by omega
      rw [e] at hv
      obtain ⟨a5, cap5, rfl⟩ := owns_slice hv
      clear e
      go_wp2_with fail
      go_ret
      exact ⟨_, rfl, hv, hb⟩
end Go.Proofs.Ytndhpgciopcncaa
