/- The shelf: all disks beside one another, and the names that came out. -/
import Derived.Test.YtndhpgciopcncaaDisk9
namespace Go.Proofs.Ytndhpgciopcncaa
open Go.RowKit
set_option linter.unusedVariables false

/-- A disk and the document's: where they lie, their files' lists, what they are like. -/
structure Item where
  p : Nat
  fs : Value
  q : Nat
  gs : Value
  S : DS

def pairCells : List Item → List Value
  | [] => []
  | it :: r => .pointer (some ⟨it.p, 0, none⟩) :: .pointer (some ⟨it.q, 0, none⟩) :: pairCells r
theorem pairCells_length : ∀ l : List Item, (pairCells l).length = l.length * 2
  | [] => rfl
  | _ :: r => by simp only [pairCells, List.length_cons, pairCells_length r]; omega
theorem pairCells_append : ∀ (l r : List Item), pairCells (l ++ r) = pairCells l ++ pairCells r
  | [], _ => rfl
  | _ :: l, r => by simp [pairCells, pairCells_append l r]
theorem pairCells_0 : ∀ (l : List Item) (i : Nat) (it : Item), l[i]? = some it → (pairCells l)[i * 2]? = some (.pointer (some ⟨it.p, 0, none⟩))
  | [], i, f, h => by simp at h
  | g :: r, 0, f, h => by simp at h; subst h; rfl
  | g :: r, i + 1, f, h => by
    have := pairCells_0 r i f (by simpa using h)
    rw [show (i + 1) * 2 = i * 2 + 1 + 1 by omega]; simpa [pairCells] using this
theorem pairCells_1 : ∀ (l : List Item) (i : Nat) (it : Item), l[i]? = some it → (pairCells l)[i * 2 + 1]? = some (.pointer (some ⟨it.q, 0, none⟩))
  | [], i, f, h => by simp at h
  | g :: r, 0, f, h => by simp at h; subst h; rfl
  | g :: r, i + 1, f, h => by
    have := pairCells_1 r i f (by simpa using h)
    rw [show (i + 1) * 2 + 1 = i * 2 + 1 + 1 + 1 by omega]; simpa [pairCells] using this
theorem pairCells_set : ∀ (l : List Item) (i : Nat) (it it' : Item), l[i]? = some it → it'.p = it.p → it'.q = it.q → pairCells (l.set i it') = pairCells l
  | [], i, f, f', h, _, _ => by simp at h
  | g :: r, 0, f, f', h, hp, hq => by simp at h; subst h; simp [pairCells, hp, hq]
  | g :: r, i + 1, f, f', h, hp, hq => by
    have := pairCells_set r i f f' (by simpa using h) hp hq
    simp [pairCells, this]

/-- all of a value's own block lies below X. -/
def ownLt (v : Value) (X : Nat) : Prop := ∀ k, v.ownBlock = some k → k < X
theorem ownLt.mono {v : Value} {X X' : Nat} (h : ownLt v X) (hx : X ≤ X') : ownLt v X' := fun k hk => Nat.lt_of_lt_of_le (h k hk) hx
theorem ownLt_of {w : World} {base size n : Nat} {e : TypeId} {v : Value} {xs : List Value} (h : w.ownsRow base e size v n xs) : ownLt v w.heap.size := fun k hk => (h.lt k hk).2

/-- a list of names that came out: all are the mark. -/
def Marked (B : Nat) (w : World) (v : Value) (m : ByteArray) : Prop := ∃ n, w.ownsRow B 9 1 v n (nmCells (List.replicate n m))

structure ItemAt (B X N : Nat) (w : World) (it : Item) : Prop where
  d : DiskAt 58 64 B w it.p it.S it.fs
  r : DiskAt 61 66 B w it.q it.S it.gs
  pX : it.p < X
  qX : it.q < X
  fX : ownLt it.fs X
  gX : ownLt it.gs X
  ok : DOk it.S N

structure Shelf (B X N : Nat) (w : World) (pw : Nat) (its : List Item) (kn : List (Value × ByteArray)) (lv nv mv : Value) : Prop where
  head : w.heap[pw]? = some (.cells #[lv, nv, mv] 36 (0, 0))
  base : B ≤ pw
  pX : pw < X
  XW : X ≤ w.heap.size
  BX : B ≤ X
  lrow : w.ownsRow B 48 2 lv its.length (pairCells its)
  nrow : w.ownsRow B 34 1 nv kn.length (kn.map (·.1))
  mrow : w.ownsRow B 9 1 mv kn.length (nmCells (kn.map (·.2)))
  lX : ownLt lv X
  nX : ownLt nv X
  mX : ownLt mv X
  items : ∀ (i : Nat) (it : Item), its[i]? = some it → ItemAt B X N w it
  dist : ∀ (i j : Nat) (a b : Item), i ≠ j → its[i]? = some a → its[j]? = some b → a.p ≠ b.p ∧ a.q ≠ b.q ∧ (∀ k, a.fs.ownBlock = some k → b.fs.ownBlock ≠ some k) ∧ ∀ k, a.gs.ownBlock = some k → b.gs.ownBlock ≠ some k
  marks : ∀ x ∈ kn, Marked B w x.1 x.2 ∧ ownLt x.1 X ∧ ∀ k, x.1.ownBlock = some k → mv.ownBlock ≠ some k

theorem block_type {w : World} {k : Nat} {c c' : Array Value} {t t' : TypeId} (h : w.heap[k]? = some (.cells c t (0, 0))) (h' : w.heap[k]? = some (.cells c' t' (0, 0))) : t = t' := by
  rw [h] at h'; injection h' with h'; injection h' with _ h'

section
variable {B X N : Nat} {w w' : World} {pw : Nat} {its : List Item} {kn : List (Value × ByteArray)} {lv nv mv : Value}

theorem owns_below {base size n : Nat} {e : TypeId} {v : Value} {xs : List Value} (h : w.ownsRow base e size v n xs) (hb : Below X w w') (hX : ownLt v X) (hXW : X ≤ w.heap.size) : w'.ownsRow base e size v n xs :=
  owns_kept (f := fun k => X ≤ k) h ⟨hb.os, hb.tape, hb.output, hb.size, fun k _ hk => hb.block k (by omega)⟩ (fun k hk hh => by have := hX k hk; omega)

theorem DiskAt.belowX {T e : TypeId} {p : Nat} {S : DS} {fs : Value} (h : DiskAt T e B w p S fs) (hb : Below X w w') (hp : p < X) (hX : ownLt fs X) (hXW : X ≤ w.heap.size) : DiskAt T e B w' p S fs :=
  ⟨(hb.block p hp).trans h.head, h.base, owns_below h.row hb hX hXW⟩

/-- nothing of the shelf has turned. -/
theorem Shelf.later (h : Shelf B X N w pw its kn lv nv mv) (hb : Below X w w') : Shelf B X N w' pw its kn lv nv mv where
  head := (hb.block pw h.pX).trans h.head
  base := h.base
  pX := h.pX
  XW := Nat.le_trans h.XW hb.size
  BX := h.BX
  lrow := owns_below h.lrow hb h.lX h.XW
  nrow := owns_below h.nrow hb h.nX h.XW
  mrow := owns_below h.mrow hb h.mX h.XW
  lX := h.lX
  nX := h.nX
  mX := h.mX
  items := fun i it hi => by
    have a := h.items i it hi
    exact ⟨a.d.belowX hb a.pX a.fX h.XW, a.r.belowX hb a.qX a.gX h.XW, a.pX, a.qX, a.fX, a.gX, a.ok⟩
  dist := h.dist
  marks := fun x hx => by
    obtain ⟨⟨n, a⟩, b, c⟩ := h.marks x hx
    exact ⟨⟨n, owns_below a hb b h.XW⟩, b, c⟩

theorem Shelf.widen (h : Shelf B X N w pw its kn lv nv mv) {X' N' : Nat} (hX : X ≤ X') (hXW : X' ≤ w.heap.size) (hN : N ≤ N') : Shelf B X' N' w pw its kn lv nv mv where
  head := h.head
  base := h.base
  pX := Nat.lt_of_lt_of_le h.pX hX
  XW := hXW
  BX := Nat.le_trans h.BX hX
  lrow := h.lrow
  nrow := h.nrow
  mrow := h.mrow
  lX := h.lX.mono hX
  nX := h.nX.mono hX
  mX := h.mX.mono hX
  items := fun i it hi => by
    have a := h.items i it hi
    exact ⟨a.d, a.r, Nat.lt_of_lt_of_le a.pX hX, Nat.lt_of_lt_of_le a.qX hX, a.fX.mono hX, a.gX.mono hX, a.ok.1, a.ok.2.1, Nat.le_trans a.ok.2.2.1 hN, fun f hf => ⟨(a.ok.2.2.2 f hf).1, Nat.le_trans (a.ok.2.2.2 f hf).2 hN⟩⟩
  dist := h.dist
  marks := fun x hx => by
    obtain ⟨a, b, c⟩ := h.marks x hx
    exact ⟨a, b.mono hX, c⟩

theorem foot_type {T e : TypeId} {p : Nat} {S : DS} {fs : Value} (h : DiskAt T e B w p S fs) {k : Nat} (hk : foot p fs k) : ∃ c, w.heap[k]? = some (.cells c T (0, 0)) ∨ w.heap[k]? = some (.cells c e (0, 0)) := by
  rcases hk with rfl | hk
  · exact ⟨_, .inl h.head⟩
  · obtain ⟨c, hc⟩ := owns_type h.row hk; exact ⟨c, .inr hc⟩
theorem foot_apart {T e T' e' : TypeId} {p q : Nat} {S S' : DS} {fs gs : Value} (h : DiskAt T e B w p S fs) (h' : DiskAt T' e' B w q S' gs) (h1 : T ≠ T') (h2 : T ≠ e') (h3 : e ≠ T') (h4 : e ≠ e') {k : Nat} (hk : foot p fs k) (hk' : foot q gs k) : False := by
  obtain ⟨c, hc⟩ := foot_type h hk
  obtain ⟨c', hc'⟩ := foot_type h' hk'
  rcases hc with hc | hc <;> rcases hc' with hc' | hc'
  · exact h1 (block_type hc hc')
  · exact h2 (block_type hc hc')
  · exact h3 (block_type hc hc')
  · exact h4 (block_type hc hc')

/-- what two calls on one pair may have turned. -/
def foot2 (it : Item) (k : Nat) : Prop := foot it.p it.fs k ∨ foot it.q it.gs k
theorem foot2_type {it : Item} (h : ItemAt B X N w it) {k : Nat} (hk : foot2 it k) : ∃ c t, w.heap[k]? = some (.cells c t (0, 0)) ∧ (t = 58 ∨ t = 64 ∨ t = 61 ∨ t = 66) := by
  rcases hk with hk | hk
  · obtain ⟨c, hc | hc⟩ := foot_type h.d hk
    · exact ⟨c, _, hc, .inl rfl⟩
    · exact ⟨c, _, hc, .inr (.inl rfl)⟩
  · obtain ⟨c, hc | hc⟩ := foot_type h.r hk
    · exact ⟨c, _, hc, .inr (.inr (.inl rfl))⟩
    · exact ⟨c, _, hc, .inr (.inr (.inr rfl))⟩
theorem foot2_not {it : Item} (h : ItemAt B X N w it) {k : Nat} {c : Array Value} {t : TypeId} (hc : w.heap[k]? = some (.cells c t (0, 0))) (h1 : t ≠ 58) (h2 : t ≠ 64) (h3 : t ≠ 61) (h4 : t ≠ 66) : ¬ foot2 it k := fun hk => by
  obtain ⟨c', t', hc', ht⟩ := foot2_type h hk
  have := block_type hc hc'
  subst this
  rcases ht with ht | ht | ht | ht
  · exact h1 ht
  · exact h2 ht
  · exact h3 ht
  · exact h4 ht

theorem owns_foot2 {it : Item} (h : ItemAt B X N w it) (hk : Kept (foot2 it) w w') {base size n : Nat} {t : TypeId} {v : Value} {xs : List Value} (ho : w.ownsRow base t size v n xs) (h1 : t ≠ 58) (h2 : t ≠ 64) (h3 : t ≠ 61) (h4 : t ≠ 66) : w'.ownsRow base t size v n xs :=
  owns_kept ho hk (fun k hko => by
    obtain ⟨c, hc⟩ := owns_type ho hko
    exact foot2_not h hc h1 h2 h3 h4)

/-- one pair of the shelf is another now. -/
theorem Shelf.update (h : Shelf B X N w pw its kn lv nv mv) {i : Nat} {it : Item} (hi : its[i]? = some it) (hk : Kept (foot2 it) w w') {S' : DS} {fs' gs' : Value}
    (hd : DiskAt 58 64 B w' it.p S' fs') (hr : DiskAt 61 66 B w' it.q S' gs') (hf : ∀ k, fs'.ownBlock = some k → it.fs.ownBlock = some k ∨ w.heap.size ≤ k) (hg : ∀ k, gs'.ownBlock = some k → it.gs.ownBlock = some k ∨ w.heap.size ≤ k)
    {N' : Nat} (hN : N ≤ N') (hok : DOk S' N') : Shelf B w'.heap.size N' w' pw (its.set i ⟨it.p, fs', it.q, gs', S'⟩) kn lv nv mv := by
  have a := h.items i it hi
  have hil : i < its.length := (List.getElem?_eq_some_iff.1 hi).1
  have hXW' : X ≤ w'.heap.size := Nat.le_trans h.XW hk.size
  have hp := h.pX
  have get : ∀ (j : Nat) (b : Item), (its.set i ⟨it.p, fs', it.q, gs', S'⟩)[j]? = some b → (j = i ∧ b = ⟨it.p, fs', it.q, gs', S'⟩) ∨ (j ≠ i ∧ its[j]? = some b) := by
    intro j b hj
    by_cases e : j = i
    · subst e; rw [List.getElem?_set_self hil] at hj; cases hj; exact .inl ⟨rfl, rfl⟩
    · rw [List.getElem?_set_ne (fun e' => e e'.symm)] at hj; exact .inr ⟨e, hj⟩
  refine ⟨hk.heap h.head (foot2_not a h.head (by decide) (by decide) (by decide) (by decide)), h.base, by omega, Nat.le_refl _, Nat.le_trans h.BX hXW', ?_, owns_foot2 a hk h.nrow (by decide) (by decide) (by decide) (by decide), owns_foot2 a hk h.mrow (by decide) (by decide) (by decide) (by decide), h.lX.mono hXW', h.nX.mono hXW', h.mX.mono hXW', ?_, ?_, ?_⟩
  · rw [pairCells_set its i it ⟨it.p, fs', it.q, gs', S'⟩ hi rfl rfl, List.length_set]
    exact owns_foot2 a hk h.lrow (by decide) (by decide) (by decide) (by decide)
  · intro j b hj
    rcases get j b hj with ⟨rfl, rfl⟩ | ⟨hne, hj'⟩
    · exact ⟨hd, hr, hd.lt, hr.lt, ownLt_of hd.row, ownLt_of hr.row, hok⟩
    · have c := h.items j b hj'
      obtain ⟨d1, d2, d3, d4⟩ := h.dist i j it b (Ne.symm hne) hi hj'
      have k1 : ∀ k, foot b.p b.fs k → ¬ foot2 it k := fun k hb hit => by
        rcases hit with hit | hit
        · rcases hit with rfl | hit
          · rcases hb with hb | hb
            · exact d1 hb
            · obtain ⟨cc, hcc⟩ := owns_type c.d.row hb; exact absurd (block_type a.d.head hcc) (by decide)
          · rcases hb with rfl | hb
            · obtain ⟨cc, hcc⟩ := owns_type a.d.row hit; exact absurd (block_type c.d.head hcc) (by decide)
            · exact d3 k hit hb
        · exact foot_apart c.d a.r (by decide) (by decide) (by decide) (by decide) hb hit
      have k2 : ∀ k, foot b.q b.gs k → ¬ foot2 it k := fun k hb hit => by
        rcases hit with hit | hit
        · exact foot_apart a.d c.r (by decide) (by decide) (by decide) (by decide) hit hb
        · rcases hit with rfl | hit
          · rcases hb with hb | hb
            · exact d2 hb
            · obtain ⟨cc, hcc⟩ := owns_type c.r.row hb; exact absurd (block_type a.r.head hcc) (by decide)
          · rcases hb with rfl | hb
            · obtain ⟨cc, hcc⟩ := owns_type a.r.row hit; exact absurd (block_type c.r.head hcc) (by decide)
            · exact d4 k hit hb
      exact ⟨c.d.kept hk k1, c.r.kept hk k2, Nat.lt_of_lt_of_le c.pX hXW', Nat.lt_of_lt_of_le c.qX hXW', c.fX.mono hXW', c.gX.mono hXW', c.ok.1, c.ok.2.1, Nat.le_trans c.ok.2.2.1 hN, fun f hf => ⟨(c.ok.2.2.2 f hf).1, Nat.le_trans (c.ok.2.2.2 f hf).2 hN⟩⟩
  · intro j l b c hjl hj hl
    have one : ∀ (m : Nat) (x : Item), m ≠ i → its[m]? = some x → it.p ≠ x.p ∧ it.q ≠ x.q ∧ (∀ k, fs'.ownBlock = some k → x.fs.ownBlock ≠ some k) ∧ ∀ k, gs'.ownBlock = some k → x.gs.ownBlock ≠ some k := by
      intro m x hm hx
      obtain ⟨d1, d2, d3, d4⟩ := h.dist i m it x (Ne.symm hm) hi hx
      have cx := h.items m x hx
      refine ⟨d1, d2, fun k hk1 hk2 => ?_, fun k hk1 hk2 => ?_⟩
      · rcases hf k hk1 with hh | hh
        · exact d3 k hh hk2
        · have := cx.fX k hk2; have := h.XW; omega
      · rcases hg k hk1 with hh | hh
        · exact d4 k hh hk2
        · have := cx.gX k hk2; have := h.XW; omega
    rcases get j b hj with ⟨rfl, rfl⟩ | ⟨hne, hj'⟩
    · rcases get l c hl with ⟨rfl, rfl⟩ | ⟨hne', hl'⟩
      · exact absurd rfl hjl
      · exact one l c hne' hl'
    · rcases get l c hl with ⟨rfl, rfl⟩ | ⟨hne', hl'⟩
      · obtain ⟨d1, d2, d3, d4⟩ := one j b hne hj'
        exact ⟨Ne.symm d1, Ne.symm d2, fun k hk1 hk2 => d3 k hk2 hk1, fun k hk1 hk2 => d4 k hk2 hk1⟩
      · exact h.dist j l b c hjl hj' hl'
  · intro x hx
    obtain ⟨⟨n, m1⟩, m2, m3⟩ := h.marks x hx
    exact ⟨⟨n, owns_foot2 a hk m1 (by decide) (by decide) (by decide) (by decide)⟩, m2.mono hXW', m3⟩
end
end Go.Proofs.Ytndhpgciopcncaa
