/- Walk: keeps: a list of names that came out is written over, and kept. -/
import Derived.Test.YtndhpgciopcncaaShelf1
namespace Go.Proofs.Ytndhpgciopcncaa
open Go.RowKit
set_option linter.unusedVariables false

theorem Try.infoStrings : (Try.prog.info? 34).map (fun i => (i.zero, i.size, i.bytes)) = some (some (.slice none 0 0), 1, 24) := by kernel_rfl

section
variable {P : Program}

/-- append: in its own row, or in a new one, and then nothing old has turned. -/
theorem run_append_where (w : World) (t ty : TypeId) (base : Nat) (e : TypeId) (i : TypeInfo) (z : Value) (size bytes : Nat) (ht : P.underlying t = some (.slice e)) (hi : P.info? e = some i) (hz : i.zero = some z)
    (hsize : i.size = size) (hby : i.bytes = bytes) (hzs : z.cells.size = size) (hsz : 0 < size)
    (v : Value) (n : Nat) (xs : List Value) (hown : w.ownsRow base e size v n xs)
    (ad : Addr) (m c : Nat) (news : List Value) (hl : news.length = m * size) (hnews : ∀ j u, news[j]? = some u → w.cell? (ad.add j) = some u) (h1 : ∀ u ∈ news, u.oneCell' = true)
    (hm : 0 < m) (h63 : n + m ≤ maxLen) (hbytes : (n + m) * bytes ≤ 140737488355328) (hbase : base ≤ w.heap.size) :
    ∃ g cap w', (Builtin.append_ #[t, t] ty #[v, .slice (some ad) m c]).run P w = .ok (.slice (some ⟨g, 0, none⟩) (n + m) cap) w' ∧
      w'.ownsRow base e size (.slice (some ⟨g, 0, none⟩) (n + m) cap) (n + m) (xs ++ news) ∧ w.grownBy w' v.ownBlock ∧ (v = .slice (some ⟨g, 0, none⟩) n cap ∨ (g = w.heap.size ∧ w.grownBy w' none)) ∧ g < w'.heap.size := by
  obtain ⟨v', w', hr, h2, h3, _, h5⟩ := run_append_own_at (P := P) w base t ty e i z size bytes ht hi hz hsize hby hzs hsz v n xs hown ad m c news hl hnews h1 h63 hbytes hbase
  obtain ⟨g, cap, rfl, _, hlt⟩ := h2.form (by omega)
  refine ⟨g, cap, w', hr, h2, h3, ?_, hlt⟩
  rcases hown.2 with ⟨rfl, _⟩ | ⟨g0, cap0, cur, rfl, hb, hg, hnc, hcm, hcs, htk⟩
  · right
    rcases h5 with h5 | h5
    · cases h5
    · simp [Value.ownBlock] at h5; exact ⟨h5, h3⟩
  · subst hsize
    subst hby
    by_cases hroom : n + m ≤ cap0
    · have hfit : n * i.size + news.length ≤ cur.size := by rw [hl, hcs, ← Nat.add_mul]; exact Nat.mul_le_mul_right _ hroom
      have hr2 := run_append_room (P := P) w t ty e i ht hi g0 n cap0 cur hg ad m c news hl hnews h1 hroom hfit
      rw [hr] at hr2
      injection hr2 with hv _
      injection hv with hv1 _ hv3
      injection hv1 with hv1
      injection hv1 with hv1
      left
      rw [hv1, hv3]
    · have hsmall : n + m ≤ 9223372036854775807 := by simp only [maxLen] at h63; omega
      have holds : ∀ j u, xs[j]? = some u → w.cell? ((⟨g0, 0, none⟩ : Addr).add j) = some u := hown.cells (g := g0) rfl
      have hr2 := run_append_grow (P := P) w t ty e i z ht hi hz ⟨g0, 0, none⟩ n cap0 xs hown.1 holds ad m c news hl hnews (by omega) (by omega) (growslice_fits (by omega) hbytes)
      rw [hr] at hr2
      injection hr2 with hv hw
      injection hv with hv1 _ _
      injection hv1 with hv1
      injection hv1 with hv1
      right
      refine ⟨hv1, ?_⟩
      subst hw
      exact ⟨rfl, rfl, rfl, by simp, fun k hk _ => Below.heap_alloc w.drew _ k hk⟩

theorem wpList_append_where {w : World} {ops : Array Oper} {rest : List Oper} {o : Oper} {a : Act} {Q : Exit → Act → World → Prop} (hgd : o.guard = none) (s x : Operand) (t : TypeId)
    (ho : o.op = .call { callee := .builtin .append, args := #[s, x], argTypes := #[t, t] })
    (base : Nat) (e : TypeId) (z : Value) (bytes : Nat) (ht : P.underlying t = some (.slice e)) (hinfo : (P.info? e).map (fun i => (i.zero, i.size, i.bytes)) = some (some z, 1, bytes)) (hzs : z.cells.size = 1)
    (v : Value) (n : Nat) (xs : List Value) (hs : a.eval s = v) (hown : w.ownsRow base e 1 v n xs)
    (B1 m : Nat) (news : List Value) (hx : a.eval x = .slice (some ⟨B1, 0, none⟩) m m) (hB1 : w.heap[B1]? = some (.cells news.toArray e (0, 0))) (hl : news.length = m) (h1 : ∀ u ∈ news, u.oneCell' = true)
    (hm : 0 < m) (hn : n + m ≤ 1099511627776) (hby : bytes ≤ 64) (hbase : base ≤ w.heap.size)
    (h : ∀ g cap w', w'.ownsRow base e 1 (.slice (some ⟨g, 0, none⟩) (n + m) cap) (n + m) (xs ++ news) → w.grownBy w' v.ownBlock → (v = .slice (some ⟨g, 0, none⟩) n cap ∨ (g = w.heap.size ∧ w.grownBy w' none)) → g < w'.heap.size → wpList P ops Q rest (a.put o.dst (.slice (some ⟨g, 0, none⟩) (n + m) cap)) w') : wpList P ops Q (o :: rest) a w := by
  cases hq : P.info? e with
  | none => simp [hq] at hinfo
  | some i =>
    simp only [hq, Option.map_some, Option.some.injEq, Prod.mk.injEq] at hinfo
    obtain ⟨hz, hsize, hby'⟩ := hinfo
    have hmul : (n + m) * bytes ≤ 1099511627776 * 64 := Nat.mul_le_mul hn hby
    refine wpList_plain hgd fun K hK => ?_
    obtain ⟨g, cap, w', hr, h2, h4, h5, h6⟩ := run_append_where (P := P) w t o.type base e i z 1 bytes ht hq hz hsize hby' hzs (by decide) v n xs hown ⟨B1, 0, none⟩ m m news (by omega) (World.news_of_block (cs := news.toArray) hB1) h1 hm (by simp only [maxLen]; omega) (by omega) hbase
    unfold Oper.wp
    simp [execOp, ho, resolve, invoke, builtin, hs, hx, hr, Result.andThen]
    exact hK _ _ (h g cap w' h2 h4 h5 h6)
end

theorem owns_prefix {w : World} {base n k cap : Nat} {e : TypeId} {g : Nat} {xs : List Value} (h : w.ownsRow base e 1 (.slice (some ⟨g, 0, none⟩) n cap) n xs) (hk : k ≤ n) : w.ownsRow base e 1 (.slice (some ⟨g, 0, none⟩) k cap) k (xs.take k) := by
  obtain ⟨h1, h2⟩ := h
  rcases h2 with ⟨h2, _⟩ | ⟨g', cap', cur, hv, hb, hg, hnc, hcm, hcs, htk⟩
  · cases h2
  · injection hv with hv1 _ hv3
    injection hv1 with hv1
    injection hv1 with hv1
    subst hv1
    subst hv3
    refine ⟨by simp; omega, .inr ⟨g, cap, cur, rfl, hb, hg, by omega, hcm, hcs, ?_⟩⟩
    rw [← htk, List.take_take]; congr 1; omega

/-- a marked list is so still, behind an append to another that is marked alike. -/
theorem marked_append {w w' : World} {base n k j cap cu : Nat} {gu g : Nat} {l : Value} {m : ByteArray} (hu : w.ownsRow base 9 1 (.slice (some ⟨gu, 0, none⟩) k cu) k (nmCells (List.replicate k m)))
    (hnew : w'.ownsRow base 9 1 (.slice (some ⟨g, 0, none⟩) j cap) j (nmCells (List.replicate j m))) (hkj : k ≤ j) (hgr : w.grownBy w' l.ownBlock) (hD : l = .slice (some ⟨g, 0, none⟩) n cap ∨ (g = w.heap.size ∧ w.grownBy w' none)) (hs : ∀ gl cl nl, l = .slice (some ⟨gl, 0, none⟩) nl cl → gu = gl → cu = cl) :
    w'.ownsRow base 9 1 (.slice (some ⟨gu, 0, none⟩) k cu) k (nmCells (List.replicate k m)) := by
  rcases hD with hD | ⟨_, hD⟩
  · by_cases e : gu = g
    · have hc := hs g cap n hD e
      subst e
      subst hc
      have := owns_prefix hnew hkj
      have e2 : (nmCells (List.replicate j m)).take k = nmCells (List.replicate k m) := by
        unfold nmCells; rw [← List.map_take, List.take_replicate, Nat.min_eq_left hkj]
      rwa [e2] at this
    · exact hu.kept hgr (.inr (by rw [hD]; simp [Value.ownBlock, e]))
  · exact hu.kept hD (.inr (by simp [Value.ownBlock]))

/-- the mark of a list: the k-th. -/
def markS : Nat → ByteArray
  | 0 => ⟨#[109, 97, 114, 107]⟩
  | k + 1 => markS k ++ ⟨#[43]⟩
theorem markS_size : ∀ k, (markS k).size = 4 + k
  | 0 => rfl
  | k + 1 => by rw [markS, ByteArray.size_append, markS_size k]; rfl

/-- written over so far. -/
def overS (m : ByteArray) (l : List ByteArray) (k : Nat) : List ByteArray := List.replicate k m ++ l.drop k
theorem overS_zero (m : ByteArray) (l : List ByteArray) : overS m l 0 = l := by simp [overS]
theorem overS_all (m : ByteArray) (l : List ByteArray) : overS m l l.length = List.replicate l.length m := by simp [overS]
theorem overS_succ (m : ByteArray) (l : List ByteArray) (k : Nat) (h : k < l.length) : overS m l (k + 1) = (overS m l k).set k m := by
  have e : (l.drop k).set 0 m = m :: l.drop (k + 1) := by rw [List.drop_eq_getElem_cons h]; rfl
  unfold overS
  rw [List.set_append_right _ _ (by simp), List.length_replicate, Nat.sub_self, e, List.replicate_succ', List.append_assoc]
  rfl
theorem overS_length (m : ByteArray) (l : List ByteArray) (k : Nat) (h : k ≤ l.length) : (overS m l k).length = l.length := by simp [overS]; omega
theorem overS_get (m : ByteArray) (l : List ByteArray) (k : Nat) (h : k < l.length) : ∃ x, (overS m l k)[k]? = some x := ⟨_, List.getElem?_eq_getElem (by rw [overS_length m l k (by omega)]; exact h)⟩


/-- the shelf with four lists more: its rows, its head. -/
theorem Shelf.more {B X N : Nat} {w w' : World} {pw : Nat} {its : List Item} {kn : List (Value × ByteArray)} {lv nv mv nv' mv' : Value} {four : List (Value × ByteArray)} (h : Shelf B X N w pw its kn lv nv mv)
    (hk : Kept (fun k => k = pw ∨ nv.ownBlock = some k ∨ mv.ownBlock = some k ∨ X ≤ k) w w') (hhead : w'.heap[pw]? = some (.cells #[lv, nv', mv'] 36 (0, 0)))
    (hn : w'.ownsRow B 34 1 nv' (kn ++ four).length ((kn ++ four).map (·.1))) (hm : w'.ownsRow B 9 1 mv' (kn ++ four).length (nmCells ((kn ++ four).map (·.2))))
    (hmv : ∀ k, mv'.ownBlock = some k → mv.ownBlock = some k ∨ X ≤ k) (hfour : ∀ x ∈ four, Marked B w' x.1 x.2 ∧ ∀ k, x.1.ownBlock = some k → mv'.ownBlock ≠ some k) : Shelf B w'.heap.size N w' pw its (kn ++ four) lv nv' mv' := by
  have hXW' : X ≤ w'.heap.size := Nat.le_trans h.XW hk.size
  have hp := h.pX
  have nt : ∀ {k : Nat} {c : Array Value} {t : TypeId}, w.heap[k]? = some (.cells c t (0, 0)) → k < X → t ≠ 36 → t ≠ 34 → t ≠ 9 → ¬ (k = pw ∨ nv.ownBlock = some k ∨ mv.ownBlock = some k ∨ X ≤ k) := by
    intro k c t hc hkX h1 h2 h3 hh
    rcases hh with rfl | hh | hh | hh
    · exact h1 (block_type hc h.head)
    · obtain ⟨c', hc'⟩ := owns_type h.nrow hh; exact h2 (block_type hc hc')
    · obtain ⟨c', hc'⟩ := owns_type h.mrow hh; exact h3 (block_type hc hc')
    · omega
  have nto : ∀ {base size n : Nat} {t : TypeId} {v : Value} {xs : List Value}, w.ownsRow base t size v n xs → ownLt v X → t ≠ 36 → t ≠ 34 → t ≠ 9 → w'.ownsRow base t size v n xs := fun ho hX h1 h2 h3 =>
    owns_kept ho hk (fun k hko => by
      obtain ⟨c, hc⟩ := owns_type ho hko
      exact nt hc (hX k hko) h1 h2 h3)
  refine ⟨hhead, h.base, by omega, Nat.le_refl _, Nat.le_trans h.BX hXW', nto h.lrow h.lX (by decide) (by decide) (by decide), hn, hm, h.lX.mono hXW', ownLt_of hn, ownLt_of hm, ?_, h.dist, ?_⟩
  · intro i it hi
    have a := h.items i it hi
    refine ⟨⟨hk.heap a.d.head (nt a.d.head a.pX (by decide) (by decide) (by decide)), a.d.base, nto a.d.row a.fX (by decide) (by decide) (by decide)⟩, ⟨hk.heap a.r.head (nt a.r.head a.qX (by decide) (by decide) (by decide)), a.r.base, nto a.r.row a.gX (by decide) (by decide) (by decide)⟩, Nat.lt_of_lt_of_le a.pX hXW', Nat.lt_of_lt_of_le a.qX hXW', a.fX.mono hXW', a.gX.mono hXW', a.ok⟩
  · intro x hx
    rcases List.mem_append.1 hx with hx | hx
    · obtain ⟨⟨n, m1⟩, m2, m3⟩ := h.marks x hx
      refine ⟨⟨n, owns_kept m1 hk (fun k hko hh => ?_)⟩, m2.mono hXW', fun k hk1 hk2 => ?_⟩
      · obtain ⟨c, hc⟩ := owns_type m1 hko
        rcases hh with rfl | hh | hh | hh
        · exact absurd (block_type hc h.head) (by decide)
        · obtain ⟨c', hc'⟩ := owns_type h.nrow hh; exact absurd (block_type hc hc') (by decide)
        · exact m3 k hko hh
        · have := m2 k hko; omega
      · rcases hmv k hk2 with hh | hh
        · exact m3 k hk1 hh
        · have := m2 k hk1; omega
    · obtain ⟨⟨n, m1⟩, m3⟩ := hfour x hx
      exact ⟨⟨n, m1⟩, ownLt_of m1, m3⟩
end Go.Proofs.Ytndhpgciopcncaa
