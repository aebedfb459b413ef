/- Walk: told: what is told of a disk without a step. -/
import Derived.Test.YtndhpgciopcncaaShelf3
namespace Go.Proofs.Ytndhpgciopcncaa
open Go.RowKit
set_option linter.unusedVariables false

theorem Try.infoPair : (Try.prog.info? 48).map (fun i => (i.zero, i.size, i.bytes)) = some (some (.agg #[.pointer none, .pointer none]), 2, 16) := by kernel_rfl

theorem box_kept {T e t : TypeId} {B : Nat} {w w' : World} {p : Nat} {S : DS} {fs : Value} (hd : DiskAt T e B w p S fs) (hk : Kept (foot p fs) w w') {b : Nat} {c : Array Value} (hb : w.heap[b]? = some (.cells c t (0, 0))) (h1 : T ≠ t) (h2 : e ≠ t) : w'.heap[b]? = some (.cells c t (0, 0)) :=
  hk.heap hb (fun hf => by
    obtain ⟨c', hc | hc⟩ := foot_type hd hf
    · exact h1 (block_type hc hb)
    · exact h2 (block_type hc hb))

/-- the shelf with a pair more. -/
theorem Shelf.add {B X N : Nat} {w w' : World} {pw : Nat} {its : List Item} {kn : List (Value × ByteArray)} {lv nv mv lv' : Value} {it : Item} (h : Shelf B X N w pw its kn lv nv mv)
    (hk : Kept (fun k => k = pw ∨ lv.ownBlock = some k) w w') (hhead : w'.heap[pw]? = some (.cells #[lv', nv, mv] 36 (0, 0))) (hl : w'.ownsRow B 48 2 lv' (its ++ [it]).length (pairCells (its ++ [it])))
    (hit : ItemAt B w'.heap.size N w' it) (hp : X ≤ it.p) (hq : X ≤ it.q) (hf : ∀ k, it.fs.ownBlock = some k → X ≤ k) (hg : ∀ k, it.gs.ownBlock = some k → X ≤ k) : Shelf B w'.heap.size N w' pw (its ++ [it]) kn lv' nv mv := by
  have hXW' : X ≤ w'.heap.size := Nat.le_trans h.XW hk.size
  have hpp := h.pX
  have nt : ∀ {k : Nat} {c : Array Value} {t : TypeId}, w.heap[k]? = some (.cells c t (0, 0)) → t ≠ 36 → t ≠ 48 → ¬ (k = pw ∨ lv.ownBlock = some k) := by
    intro k c t hc h1 h2 hh
    rcases hh with rfl | hh
    · exact h1 (block_type hc h.head)
    · obtain ⟨c', hc'⟩ := owns_type h.lrow hh; exact h2 (block_type hc hc')
  have nto : ∀ {base size n : Nat} {t : TypeId} {v : Value} {xs : List Value}, w.ownsRow base t size v n xs → t ≠ 36 → t ≠ 48 → w'.ownsRow base t size v n xs := fun ho h1 h2 =>
    owns_kept ho hk (fun k hko => by
      obtain ⟨c, hc⟩ := owns_type ho hko
      exact nt hc h1 h2)
  have get : ∀ (j : Nat) (b : Item), (its ++ [it])[j]? = some b → (j < its.length ∧ its[j]? = some b) ∨ (j = its.length ∧ b = it) := by
    intro j b hj
    by_cases e : j < its.length
    · rw [List.getElem?_append_left e] at hj; exact .inl ⟨e, hj⟩
    · rw [List.getElem?_append_right (by omega)] at hj
      have : j - its.length = 0 := by
        by_cases e2 : j - its.length = 0
        · exact e2
        · rw [List.getElem?_eq_none (by simp; omega)] at hj; cases hj
      rw [this] at hj
      simp at hj
      exact .inr ⟨by omega, hj.symm⟩
  refine ⟨hhead, h.base, by omega, Nat.le_refl _, Nat.le_trans h.BX hXW', hl, nto h.nrow (by decide) (by decide), nto h.mrow (by decide) (by decide), ownLt_of hl, h.nX.mono hXW', h.mX.mono hXW', ?_, ?_, ?_⟩
  · intro j b hj
    rcases get j b hj with ⟨_, hj'⟩ | ⟨_, rfl⟩
    · have a := h.items j b hj'
      exact ⟨⟨hk.heap a.d.head (nt a.d.head (by decide) (by decide)), a.d.base, nto a.d.row (by decide) (by decide)⟩, ⟨hk.heap a.r.head (nt a.r.head (by decide) (by decide)), a.r.base, nto a.r.row (by decide) (by decide)⟩, Nat.lt_of_lt_of_le a.pX hXW', Nat.lt_of_lt_of_le a.qX hXW', a.fX.mono hXW', a.gX.mono hXW', a.ok⟩
    · exact hit
  · intro j l b c hjl hj hl'
    have one : ∀ (m : Nat) (x : Item), its[m]? = some x → it.p ≠ x.p ∧ it.q ≠ x.q ∧ (∀ k, it.fs.ownBlock = some k → x.fs.ownBlock ≠ some k) ∧ ∀ k, it.gs.ownBlock = some k → x.gs.ownBlock ≠ some k := by
      intro m x hx
      have a := h.items m x hx
      have := a.pX
      have := a.qX
      refine ⟨by omega, by omega, fun k h1 h2 => ?_, fun k h1 h2 => ?_⟩
      · have := hf k h1; have := a.fX k h2; omega
      · have := hg k h1; have := a.gX k h2; omega
    rcases get j b hj with ⟨_, hj'⟩ | ⟨e1, rfl⟩
    · rcases get l c hl' with ⟨_, hl''⟩ | ⟨e2, rfl⟩
      · exact h.dist j l b c hjl hj' hl''
      · obtain ⟨d1, d2, d3, d4⟩ := one j b hj'
        exact ⟨Ne.symm d1, Ne.symm d2, fun k h1 h2 => d3 k h2 h1, fun k h1 h2 => d4 k h2 h1⟩
    · rcases get l c hl' with ⟨_, hl''⟩ | ⟨e2, rfl⟩
      · exact one l c hl''
      · omega
  · intro x hx
    obtain ⟨⟨n, m1⟩, m2, m3⟩ := h.marks x hx
    exact ⟨⟨n, nto m1 (by decide) (by decide)⟩, m2.mono hXW', m3⟩

theorem pushed_pair {w : World} {B : Nat} {e : TypeId} {v : Value} {l : List Item} {it : Item} (h : w.ownsRow B e 2 v (l.length + 1) (pairCells l ++ [.pointer (some ⟨it.p, 0, none⟩), .pointer (some ⟨it.q, 0, none⟩)])) : w.ownsRow B e 2 v (l ++ [it]).length (pairCells (l ++ [it])) := by
  rw [pairCells_append]; simpa [pairCells] using h

/-- append to the list of pairs. -/
theorem push_pair {w : World} {ops : Array Oper} {rest : List Oper} {o : Oper} {a : Act} {Q : Exit → Act → World → Prop} (hgd : o.guard = none) (s x : Operand)
    (ho : o.op = .call { callee := .builtin .append, args := #[s, x], argTypes := #[32, 32] }) (base : Nat) (v : Value) (l : List Item) (it : Item) (hs : a.eval s = v) (hown : w.ownsRow base 48 2 v l.length (pairCells l))
    (B1 : Nat) (hx : a.eval x = .slice (some ⟨B1, 0, none⟩) 1 1) (hB1 : w.heap[B1]? = some (.cells #[.pointer (some ⟨it.p, 0, none⟩), .pointer (some ⟨it.q, 0, none⟩)] 48 (0, 0))) (hl : l.length ≤ 1099511627776) (hbase : base ≤ w.heap.size)
    (h : ∀ g cap w', w'.ownsRow base 48 2 (.slice (some ⟨g, 0, none⟩) (l.length + 1) cap) (l ++ [it]).length (pairCells (l ++ [it])) → w.grownBy w' v.ownBlock → g < w'.heap.size → wpList Try.prog ops Q rest (a.put o.dst (.slice (some ⟨g, 0, none⟩) (l.length + 1) cap)) w') : wpList Try.prog ops Q (o :: rest) a w :=
  wpList_append_keep hgd s x 32 ho base 48 _ 2 16 Try.underlying32 Try.infoPair rfl (by decide) v l.length (pairCells l) hs hown ⟨B1, 0, none⟩ 1 1 [.pointer (some ⟨it.p, 0, none⟩), .pointer (some ⟨it.q, 0, none⟩)] hx rfl
    (World.news_of_block (cs := #[.pointer (some ⟨it.p, 0, none⟩), .pointer (some ⟨it.q, 0, none⟩)]) hB1) (by intro u hu; simp at hu; rcases hu with rfl | rfl <;> rfl) (by decide) (by simp only [maxLen]; omega) (by omega) hbase
    fun g cap w' h1 h2 h3 h4 h5 => h g cap w' (pushed_pair h1) h3 h5

/-- as it should be, behind an act. -/
def Good (B N K pw : Nat) (w w' : World) : Prop := ∃ its kn lv nv mv, Shelf B w'.heap.size N w' pw its kn lv nv mv ∧ its.length ≤ K ∧ kn.length ≤ 4 * K ∧ (∀ x ∈ kn, ∀ a n cap, x.1 = .slice a n cap → n ≤ N + 3) ∧ Below B w w'

theorem Good.same {B X N K pw : Nat} {w w' : World} {its : List Item} {kn : List (Value × ByteArray)} {lv nv mv : Value} (h : Shelf B X N w pw its kn lv nv mv) (hi : its.length ≤ K) (hk : kn.length ≤ 4 * K) (hn : ∀ x ∈ kn, ∀ a n cap, x.1 = .slice a n cap → n ≤ N + 3) (hb : Below w.heap.size w w') {N' K' : Nat} (hN : N ≤ N') (hK : K ≤ K') : Good B N' K' pw w w' :=
  ⟨its, kn, lv, nv, mv, (h.later (hb.mono h.XW)).widen (Nat.le_trans h.XW hb.size) (Nat.le_refl _) hN, by omega, by omega, fun x hx a n cap e => by have := hn x hx a n cap e; omega, hb.mono (Nat.le_trans h.BX h.XW)⟩

theorem two_boxes (w : World) (o1 o2 : Obj) : ((w.alloc o1).alloc o2).heap[w.heap.size]? = some o1 ∧ ((w.alloc o1).alloc o2).heap[w.heap.size + 1]? = some o2 ∧ Below w.heap.size w ((w.alloc o1).alloc o2) ∧ ((w.alloc o1).alloc o2).heap.size = w.heap.size + 2 := by
  refine ⟨(Below.heap_alloc _ _ _ (by rw [size_first]; omega)).trans (heap_alloc_last _ _), heap_second _ _ _, ((Below.refl _ _).alloc (Nat.le_refl _) _).alloc (by rw [size_first]; omega) _, size_second _ _ _⟩

section
variable {B X N K pw : Nat} {w : World} {its : List Item} {kn : List (Value × ByteArray)} {lv nv mv : Value} {it : Item}

set_option maxHeartbeats 2000000 in
theorem told_read (h : Shelf B X N w pw its kn lv nv mv) (hN : N ≤ 1099511626776) (i : Nat) (hi : its[i]? = some it) (on a : Int) (n s : ByteArray) :
    Calls Try.prog 22 #[.pointer (some ⟨pw, 0, none⟩), .agg #[.pointer (some ⟨it.p, 0, none⟩), .pointer (some ⟨it.q, 0, none⟩)], .agg #[.int .i64 6, .int .i64 on, .int .i64 a, .string n, .string s]] w fun e w' => e = .returned (.bool true) ∧ Below w.heap.size w w' := by
  have a0 := h.items i it hi
  obtain ⟨b1, b2, bb, bz⟩ := two_boxes w (.cells #[.pointer (some ⟨it.p, 0, none⟩), .pointer (some ⟨it.q, 0, none⟩)] 48) (.cells #[.int .i64 6, .int .i64 on, .int .i64 a, .string n, .string s] 39)
  have HR := hide (read_any B it.p it.S it.fs n _ N (by omega) a0.ok.2.2.1 (a0.d.later bb))
  have HH := hide (has_any B it.p it.S it.fs n _ N (by omega) a0.ok.2.2.1 (a0.d.later bb))
  have HRR := hide (rread_any B it.q it.S it.gs n _ N (by omega) a0.ok.2.2.1 (a0.r.later bb))
  have hst : ((readD it.S n).toList == (readD it.S n).toList) = true := by simp
  have BB := hide bb
  clear b1 b2 bz bb
  go_enter Try.func22, Try.ntmps22
  go_wp2_with (first
    | (go_at_call 32; refine (unhide HR).mono ?_; rintro e w1 ⟨rfl, hw1⟩; subst hw1)
    | (go_at_call 33; refine (unhide HH).mono ?_; rintro e w2 ⟨rfl, hw2⟩; subst hw2)
    | (go_at_call 34; refine (unhide HRR).mono ?_; rintro e w3 ⟨rfl, hw3⟩; subst hw3))
  go_ret
  exact ⟨dret_bool (by simp), unhide BB⟩
end
end Go.Proofs.Ytndhpgciopcncaa
