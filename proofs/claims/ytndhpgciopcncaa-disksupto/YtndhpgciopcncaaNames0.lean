/- Names, rising: putting one in where it belongs, from the left or from the right. -/
import Derived.WalkKit
namespace Go.Proofs.Ytndhpgciopcncaa

def ltS (a b : ByteArray) : Bool := Op.bytesLess a.toList b.toList

theorem less_tri : ∀ x y : List UInt8, Op.bytesLess x y = !(Op.bytesLess y x || y == x)
  | [], [] => by simp [Op.bytesLess]
  | [], b :: y => by simp [Op.bytesLess]
  | a :: x, [] => by simp [Op.bytesLess]
  | a :: x, b :: y => by
    have ih := less_tri x y
    simp only [Op.bytesLess]
    rcases Nat.lt_trichotomy a.toNat b.toNat with h | h | h
    · have h1 : a < b := UInt8.lt_iff_toNat_lt.2 h
      have h2 : ¬ b < a := fun hh => by have := UInt8.lt_iff_toNat_lt.1 hh; omega
      have h3 : ¬ b = a := fun hh => by rw [hh] at h; omega
      simp [h1, h2, h3]
    · have h0 : a = b := UInt8.toNat_inj.1 h
      subst h0
      have h2 : ¬ a < a := fun hh => by have := UInt8.lt_iff_toNat_lt.1 hh; omega
      simp [h2, ih]
    · have h1 : ¬ a < b := fun hh => by have := UInt8.lt_iff_toNat_lt.1 hh; omega
      have h2 : b < a := UInt8.lt_iff_toNat_lt.2 h
      have h3 : ¬ a = b := fun hh => by rw [hh] at h; omega
      simp [h1, h2, h3]

theorem less_trans : ∀ x y z : List UInt8, Op.bytesLess x y = true → Op.bytesLess z y = false → Op.bytesLess x z = true
  | x, [], z, h, _ => by cases x <;> simp [Op.bytesLess] at h
  | x, b :: y, [], _, h => by simp [Op.bytesLess] at h
  | [], b :: y, c :: z, _, _ => by simp [Op.bytesLess]
  | a :: x, b :: y, c :: z, h1, h2 => by
    simp only [Op.bytesLess, Bool.or_eq_true, Bool.and_eq_true, decide_eq_true_eq, beq_iff_eq, Bool.or_eq_false_iff, decide_eq_false_iff_not, Bool.and_eq_false_iff, beq_eq_false_iff_ne] at h1 h2 ⊢
    obtain ⟨h2a, h2b⟩ := h2
    have e1 : ¬ c.toNat < b.toNat := fun hh => h2a (UInt8.lt_iff_toNat_lt.2 hh)
    rcases h1 with h1 | ⟨rfl, h1⟩
    · have := UInt8.lt_iff_toNat_lt.1 h1
      exact .inl (UInt8.lt_iff_toNat_lt.2 (by omega))
    · by_cases e : a = c
      · subst e
        rcases h2b with h2b | h2b
        · exact absurd rfl h2b
        · exact .inr ⟨rfl, less_trans x y z h1 h2b⟩
      · refine .inl (UInt8.lt_iff_toNat_lt.2 ?_)
        have : a.toNat ≠ c.toNat := fun hh => e (UInt8.toNat_inj.1 hh)
        omega

theorem gtS_iff (a b : ByteArray) : (!(Op.bytesLess a.toList b.toList || a.toList == b.toList)) = ltS b a := (less_tri b.toList a.toList).symm
theorem ltS_trans {x y z : ByteArray} (h1 : ltS x y = true) (h2 : ltS z y = false) : ltS x z = true := less_trans _ _ _ h1 h2
theorem ltS_asymm {x y : ByteArray} (h : ltS x y = true) : ltS y x = false := by
  have := less_tri y.toList x.toList
  unfold ltS at *
  rw [this, h]; simp

def insS (x : ByteArray) : List ByteArray → List ByteArray
  | [] => [x]
  | y :: r => if ltS x y then x :: y :: r else y :: insS x r

theorem insS_split (x : ByteArray) : ∀ (a b : List ByteArray), (∀ y ∈ a, ltS x y = false) → (∀ y, b[0]? = some y → ltS x y = true) → insS x (a ++ b) = a ++ x :: b
  | [], [], _, _ => rfl
  | [], y :: b, _, h => by simp [insS, h y rfl]
  | y :: a, b, h1, h2 => by
    rw [List.cons_append, insS, h1 y (by simp)]
    simp only [Bool.false_eq_true, if_false, List.cons_append]
    rw [insS_split x a b (fun z hz => h1 z (by simp [hz])) h2]

/-- what stands, once k of a list have been gone through from the left. -/
def anyGt (x : ByteArray) (l : List ByteArray) : Bool := l.any (fun y => ltS x y)
def partS (x : ByteArray) (l : List ByteArray) : List ByteArray := if anyGt x l then insS x l else l

theorem insS_none {x : ByteArray} {l : List ByteArray} (h : anyGt x l = false) : insS x l = l ++ [x] := by
  have := insS_split x l [] (fun y hy => by
    unfold anyGt at h; rw [List.any_eq_false] at h; simpa using h y hy) (fun y hy => by simp at hy)
  simpa using this
theorem insS_snoc (x : ByteArray) : ∀ (l : List ByteArray) (y : ByteArray), anyGt x l = true → insS x (l ++ [y]) = insS x l ++ [y]
  | [], y, h => by simp [anyGt] at h
  | z :: l, y, h => by
    rw [List.cons_append, insS, insS]
    by_cases e : ltS x z = true
    · simp [e]
    · have e' : ltS x z = false := by simpa using e
      rw [e']
      simp only [Bool.false_eq_true, if_false, List.cons_append]
      rw [insS_snoc x l y (by simpa [anyGt, e'] using h)]
theorem partS_in {x y : ByteArray} {l : List ByteArray} (h : anyGt x l = true) : partS x (l ++ [y]) = partS x l ++ [y] ∧ anyGt x (l ++ [y]) = true := by
  have h2 : anyGt x (l ++ [y]) = true := by unfold anyGt at *; rw [List.any_append, h]; rfl
  exact ⟨by simp only [partS, h, h2, if_true]; exact insS_snoc x l y h, h2⟩
theorem partS_new {x y : ByteArray} {l : List ByteArray} (h : anyGt x l = false) (hy : ltS x y = true) : partS x (l ++ [y]) = partS x l ++ [x] ++ [y] ∧ anyGt x (l ++ [y]) = true := by
  have h2 : anyGt x (l ++ [y]) = true := by unfold anyGt at *; rw [List.any_append, h]; simp [hy]
  refine ⟨?_, h2⟩
  simp only [partS, h, h2, if_true, Bool.false_eq_true, if_false]
  rw [insS_split x l [y] (fun z hz => by unfold anyGt at h; rw [List.any_eq_false] at h; simpa using h z hz) (fun z hz => by simp at hz; subst hz; exact hy)]
  simp
theorem partS_old {x y : ByteArray} {l : List ByteArray} (h : anyGt x l = false) (hy : ltS x y = false) : partS x (l ++ [y]) = partS x l ++ [y] ∧ anyGt x (l ++ [y]) = false := by
  have h2 : anyGt x (l ++ [y]) = false := by unfold anyGt at *; rw [List.any_append, h]; simp [hy]
  exact ⟨by simp [partS, h, h2], h2⟩
theorem partS_nil (x : ByteArray) : partS x [] = [] ∧ anyGt x [] = false := by simp [partS, anyGt]

def sortedS (l : List ByteArray) : Prop := ∀ (i j : Nat) (a b : ByteArray), i < j → l[i]? = some a → l[j]? = some b → ltS b a = false
theorem sortedS_nil : sortedS [] := fun i j a b _ h _ => by simp at h
theorem sortedS_cons {y : ByteArray} {l : List ByteArray} (h : sortedS l) (hy : ∀ z ∈ l, ltS z y = false) : sortedS (y :: l) := by
  intro i j a b hij ha hb
  cases j with
  | zero => omega
  | succ j =>
    have hb' : l[j]? = some b := by simpa using hb
    cases i with
    | zero => simp at ha; subst ha; exact hy b (List.mem_of_getElem? hb')
    | succ i => exact h i j a b (by omega) (by simpa using ha) hb'
theorem sortedS_tail {y : ByteArray} {l : List ByteArray} (h : sortedS (y :: l)) : sortedS l ∧ ∀ z ∈ l, ltS z y = false :=
  ⟨fun i j a b hij ha hb => h (i + 1) (j + 1) a b (by omega) (by simpa using ha) (by simpa using hb), fun z hz => by
    obtain ⟨j, hj⟩ := List.getElem?_of_mem hz
    exact h 0 (j + 1) y z (by omega) rfl (by simpa using hj)⟩
theorem mem_insS {x z : ByteArray} : ∀ {l : List ByteArray}, z ∈ insS x l → z = x ∨ z ∈ l
  | [], h => by simp [insS] at h; exact .inl h
  | y :: l, h => by
    rw [insS] at h
    split at h
    · simp at h; rcases h with h | h | h
      · exact .inl h
      · exact .inr (by simp [h])
      · exact .inr (by simp [h])
    · simp at h; rcases h with h | h
      · exact .inr (by simp [h])
      · rcases mem_insS h with h | h
        · exact .inl h
        · exact .inr (by simp [h])
theorem sortedS_ins (x : ByteArray) : ∀ {l : List ByteArray}, sortedS l → sortedS (insS x l)
  | [], _ => fun i j a b hij ha hb => by
    simp [insS] at hb; cases j with
    | zero => omega
    | succ j => simp at hb
  | y :: l, h => by
    obtain ⟨h1, h2⟩ := sortedS_tail h
    rw [insS]
    by_cases e : ltS x y = true
    · rw [if_pos e]
      refine sortedS_cons h (fun z hz => ?_)
      simp at hz
      rcases hz with rfl | hz
      · exact ltS_asymm e
      · exact ltS_asymm (ltS_trans e (h2 z hz))
    · have e' : ltS x y = false := by simpa using e
      rw [if_neg e]
      refine sortedS_cons (sortedS_ins x h1) (fun z hz => ?_)
      rcases mem_insS hz with rfl | hz
      · exact e'
      · exact h2 z hz

/-- from the right: k have not been passed yet. -/
def slideS (x : ByteArray) (l : List ByteArray) (k : Nat) : List ByteArray := l.take k ++ x :: l.drop k
theorem slideS_length (x : ByteArray) (l : List ByteArray) (k : Nat) : (slideS x l k).length = l.length + 1 := by
  simp [slideS]; omega
theorem slideS_full (x : ByteArray) (l : List ByteArray) : slideS x l l.length = l ++ [x] := by simp [slideS]
theorem slideS_at {x : ByteArray} {l : List ByteArray} {k : Nat} (hk : k ≤ l.length) : (slideS x l k)[k]? = some x := by
  unfold slideS; rw [List.getElem?_append_right (by simp; omega)]; simp [Nat.min_eq_left hk]
theorem slideS_before {x y : ByteArray} {l : List ByteArray} {k : Nat} (h : l[k]? = some y) : (slideS x l (k + 1))[k]? = some y := by
  have hk : k < l.length := (List.getElem?_eq_some_iff.1 h).1
  unfold slideS; rw [List.getElem?_append_left (by simp; omega), List.getElem?_take]; simp [h]
theorem slideS_step {x y : ByteArray} {l : List ByteArray} {k : Nat} (h : l[k]? = some y) : slideS x l k = ((slideS x l (k + 1)).set (k + 1) y).set k x := by
  have hk : k < l.length := (List.getElem?_eq_some_iff.1 h).1
  have e1 : l.take (k + 1) = l.take k ++ [y] := by rw [List.take_add_one, h]; rfl
  have e2 : l.drop k = y :: l.drop (k + 1) := by rw [List.drop_eq_getElem_cons hk]; congr 1; exact (List.getElem?_eq_some_iff.1 h).2
  have hl : (l.take k).length = k := by simp; omega
  unfold slideS
  rw [e1, e2]
  simp [hl]
theorem slideS_stop {x : ByteArray} {l : List ByteArray} {k : Nat} (hs : sortedS l) (hk : k ≤ l.length) (h1 : ∀ j y, k = j + 1 → l[j]? = some y → ltS x y = false) (h2 : ∀ y, l[k]? = some y → ltS x y = true) : slideS x l k = insS x l := by
  have := insS_split x (l.take k) (l.drop k) (fun y hy => by
    obtain ⟨i, hi⟩ := List.getElem?_of_mem hy
    rw [List.getElem?_take] at hi
    split at hi
    · rename_i hik
      obtain ⟨j, rfl⟩ : ∃ j, k = j + 1 := ⟨k - 1, by omega⟩
      obtain ⟨z, hz⟩ : ∃ z, l[j]? = some z := ⟨_, List.getElem?_eq_getElem (by omega)⟩
      have hjz := h1 j z rfl hz
      by_cases e : i = j
      · subst e; rw [hz] at hi; cases hi; exact hjz
      · have := hs i j y z (by omega) hi hz
        by_cases hx : ltS x y = true
        · rw [ltS_trans hx this] at hjz; cases hjz
        · simpa using hx
    · cases hi) (fun y hy => h2 y (by rw [List.getElem?_drop] at hy; simpa using hy))
  rw [List.take_append_drop] at this
  exact this.symm

end Go.Proofs.Ytndhpgciopcncaa
