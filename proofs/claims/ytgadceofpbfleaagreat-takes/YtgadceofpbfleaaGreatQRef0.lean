import Derived.WalkKit
import Derived.Test.YtgadceofpbfleaaGreatQConf0

/- The document's mill, plainly: numbers, segments, cells, as lists; how they lie in cells. No program text is imported. -/
namespace Go.Proofs.YtgadceofpbfleaaGreat

/-- A configuration. -/
structure Cf where
  s : Int
  le : Int
  la : Int
  wi : Int
  ke : Int
  qu : Int
  n : Nat
  F : Nat → Int
  W : Nat → Int
  K : Nat → Int

/-- A number that was accepted. -/
structure Nm where
  ser : Int
  tm : Int
  val : Int

/-- A segment. -/
structure Sg where
  t : Int
  ser : Int
  win : Int
deriving DecidableEq

/-- A cell. -/
structure Cl where
  cnt : Int
  sum : Int
  mn : Int
  mx : Int

/-- A job that is ready. -/
structure Tk where
  kind : Int
  s : Sg
  since : Int
  tries : Int
  rest : Int
  ep : Int
  num : Int
  slot : Int
  till : Int

/-- The document's mill. -/
structure RM where
  c : Cf
  now : Int
  nums : List Nm
  pub : List Sg
  gone : List Sg
  tasks : List Tk
  epoch : Int
  picks : Int

def nmV (x : Nm) : List Value := [.int .i64 x.ser, .int .i64 x.tm, .int .i32 x.val]
def sgV (x : Sg) : List Value := [.int .i64 x.t, .int .i64 x.ser, .int .i64 x.win]
def tkV (x : Tk) : List Value := [.int .i64 x.kind, .int .i64 x.s.t, .int .i64 x.s.ser, .int .i64 x.s.win, .int .i64 x.since, .int .i64 x.tries, .int .i64 x.rest, .int .i64 x.ep, .int .i64 x.num, .int .i64 x.slot, .int .i64 x.till]

section
variable {α : Type}
theorem flat_len {f : α → List Value} {k : Nat} (hf : ∀ a, (f a).length = k) : ∀ l : List α, (l.flatMap f).length = l.length * k
  | [] => by simp
  | a :: l => by rw [List.flatMap_cons, List.length_append, hf, flat_len hf l, List.length_cons, Nat.add_mul]; omega
theorem flat_get {f : α → List Value} {k : Nat} (hf : ∀ a, (f a).length = k) : ∀ (l : List α) (i : Nat) (a : α) (j : Nat), l[i]? = some a → j < k → (l.flatMap f)[i * k + j]? = (f a)[j]?
  | [], i, a, j, h, _ => by simp at h
  | b :: l, 0, a, j, h, hj => by
    simp at h; subst h
    rw [List.flatMap_cons, List.getElem?_append_left (by rw [hf]; omega)]; simp
  | b :: l, i + 1, a, j, h, hj => by
    have := flat_get hf l i a j (by simpa using h) hj
    rw [List.flatMap_cons, List.getElem?_append_right (by rw [hf, Nat.add_mul]; omega), hf, ← this]
    congr 1; rw [Nat.add_mul]; omega
theorem flat_one {f : α → List Value} (hf : ∀ a, ∀ v ∈ f a, v.oneCell' = true) (l : List α) : ∀ v ∈ l.flatMap f, v.oneCell' = true := fun v hv => by
  obtain ⟨a, _, ha⟩ := List.mem_flatMap.1 hv
  exact hf a v ha
theorem flat_snoc (f : α → List Value) (l : List α) (a : α) : (l ++ [a]).flatMap f = l.flatMap f ++ f a := by simp
end

theorem nmV_len (x : Nm) : (nmV x).length = 3 := rfl
theorem sgV_len (x : Sg) : (sgV x).length = 3 := rfl
theorem tkV_len (x : Tk) : (tkV x).length = 11 := rfl
theorem nmV_one (x : Nm) : ∀ v ∈ nmV x, v.oneCell' = true := fun v h => by
  simp only [nmV, List.mem_cons, List.not_mem_nil, or_false] at h
  rcases h with rfl | rfl | rfl <;> rfl
theorem sgV_one (x : Sg) : ∀ v ∈ sgV x, v.oneCell' = true := fun v h => by
  simp only [sgV, List.mem_cons, List.not_mem_nil, or_false] at h
  rcases h with rfl | rfl | rfl <;> rfl
theorem tkV_one (x : Tk) : ∀ v ∈ tkV x, v.oneCell' = true := fun v h => by
  simp only [tkV, List.mem_cons, List.not_mem_nil, or_false] at h
  rcases h with rfl | rfl | rfl | rfl | rfl | rfl | rfl | rfl | rfl | rfl | rfl <;> rfl

/-- A configuration that is right, as far as walks ask. -/
structure Cf.ok (c : Cf) : Prop where
  n1 : 1 ≤ c.n
  n4 : c.n ≤ 4
  wi1 : 1 ≤ c.wi
  wi2 : c.wi ≤ 1000
  W : ∀ i, i < c.n → 1 ≤ c.W i ∧ c.W i ≤ 1000
  F : ∀ i, i < c.n → -1 ≤ c.F i ∧ c.F i < c.n
  K : ∀ i, i < c.n → 0 ≤ c.K i ∧ c.K i ≤ 1000
  ke : 0 ≤ c.ke ∧ c.ke ≤ 1000
  la : 0 ≤ c.la ∧ c.la ≤ 100
  qu : 1 ≤ c.qu ∧ c.qu ≤ 400
  sl : 1 ≤ c.s ∧ c.s ≤ 4
  le : 1 ≤ c.le ∧ c.le ≤ 100

/-- the width of a tier. -/
def Cf.width (c : Cf) (t : Int) : Int := widthOf c.wi c.W t

theorem Cf.ok.width {c : Cf} (h : c.ok) {t : Int} (h1 : -1 ≤ t) (h2 : t < c.n) : 1 ≤ c.width t ∧ c.width t ≤ 1000 := by
  unfold Cf.width widthOf
  split
  · exact ⟨h.wi1, h.wi2⟩
  · exact h.W _ (by omega)

/-- the segment of a number in a tier. -/
def segOf (c : Cf) (t : Int) (x : Nm) : Sg := ⟨t, x.ser, x.tm / c.width t⟩

def addSg (l : List Sg) (s : Sg) : List Sg := if s ∈ l then l else l ++ [s]
def segsTier (c : Cf) (t : Int) (nums : List Nm) (l : List Sg) : List Sg := nums.foldl (fun l x => addSg l (segOf c t x)) l
/-- the segments of the first k tiers (the raw numbers are the first). -/
def segsTo (c : Cf) (nums : List Nm) (k : Nat) : List Sg := (List.range k).foldl (fun l (j : Nat) => segsTier c ((j : Int) - 1) nums l) []
def segsOf (c : Cf) (nums : List Nm) : List Sg := segsTo c nums (c.n + 1)

theorem segsTo_succ (c : Cf) (nums : List Nm) (k : Nat) : segsTo c nums (k + 1) = segsTier c ((k : Int) - 1) nums (segsTo c nums k) := by
  simp [segsTo, List.range_succ]
theorem segsTier_take (c : Cf) (t : Int) (nums : List Nm) (l : List Sg) (i : Nat) (x : Nm) (h : nums[i]? = some x) : segsTier c t (nums.take (i + 1)) l = addSg (segsTier c t (nums.take i) l) (segOf c t x) := by
  obtain ⟨hl, hx⟩ := List.getElem?_eq_some_iff.1 h
  rw [List.take_succ_eq_append_getElem hl, hx]; simp [segsTier]

theorem addSg_len (l : List Sg) (s : Sg) : (addSg l s).length ≤ l.length + 1 := by unfold addSg; split <;> simp
theorem segsTier_len (c : Cf) (t : Int) : ∀ (nums : List Nm) (l : List Sg), (segsTier c t nums l).length ≤ l.length + nums.length
  | [], l => by simp [segsTier]
  | x :: r, l => by
    have := segsTier_len c t r (addSg l (segOf c t x)); have h2 := addSg_len l (segOf c t x)
    simp only [segsTier, List.foldl_cons, List.length_cons] at *; omega
theorem segsTo_len (c : Cf) (nums : List Nm) : ∀ k, (segsTo c nums k).length ≤ k * nums.length
  | 0 => by simp [segsTo]
  | k + 1 => by
    have := segsTo_len c nums k; have h2 := segsTier_len c ((k : Int) - 1) nums (segsTo c nums k)
    rw [segsTo_succ, Nat.add_mul]; omega

theorem mem_addSg {l : List Sg} {s x : Sg} : x ∈ addSg l s ↔ x ∈ l ∨ x = s := by
  unfold addSg; split
  · rename_i h; constructor
    · exact .inl
    · rintro (h1 | rfl) <;> assumption
  · simp
theorem mem_segsTier (c : Cf) (t : Int) (s : Sg) : ∀ (nums : List Nm) (l : List Sg), s ∈ segsTier c t nums l ↔ s ∈ l ∨ ∃ x ∈ nums, s = segOf c t x
  | [], l => by simp [segsTier]
  | x :: r, l => by
    have := mem_segsTier c t s r (addSg l (segOf c t x))
    simp only [segsTier, List.foldl_cons] at this ⊢
    rw [this, mem_addSg]; simp only [List.mem_cons, exists_eq_or_imp]
    constructor
    · rintro ((h | h) | h)
      · exact .inl h
      · exact .inr (.inl h)
      · exact .inr (.inr h)
    · rintro (h | h | h)
      · exact .inl (.inl h)
      · exact .inl (.inr h)
      · exact .inr h
theorem mem_segsTo (c : Cf) (nums : List Nm) (s : Sg) : ∀ k, s ∈ segsTo c nums k ↔ ∃ j, j < k ∧ ∃ x ∈ nums, s = segOf c ((j : Int) - 1) x
  | 0 => by simp [segsTo]
  | k + 1 => by
    rw [segsTo_succ, mem_segsTier, mem_segsTo c nums s k]
    constructor
    · rintro (⟨j, hj, h⟩ | h)
      · exact ⟨j, by omega, h⟩
      · exact ⟨k, by omega, h⟩
    · rintro ⟨j, hj, h⟩
      by_cases e : j = k
      · subst e; exact .inr h
      · exact .inl ⟨j, by omega, h⟩
/-- a segment is there if a number was accepted for it. -/
theorem mem_segsOf {c : Cf} {nums : List Nm} {s : Sg} : s ∈ segsOf c nums ↔ -1 ≤ s.t ∧ s.t < c.n ∧ ∃ x ∈ nums, s = segOf c s.t x := by
  unfold segsOf; rw [mem_segsTo]
  constructor
  · rintro ⟨j, hj, x, hx, rfl⟩
    refine ⟨?_, ?_, x, hx, rfl⟩ <;> simp only [segOf] <;> omega
  · rintro ⟨h1, h2, x, hx, h⟩
    refine ⟨(s.t + 1).toNat, by omega, x, hx, ?_⟩
    have : (((s.t + 1).toNat : Nat) : Int) - 1 = s.t := by omega
    rw [this]; exact h
theorem addSg_nodup {l : List Sg} {s : Sg} (h : l.Nodup) : (addSg l s).Nodup := by
  unfold addSg; split
  · exact h
  · rename_i hn; rw [List.nodup_append]
    exact ⟨h, by simp, fun a ha b hb => by simp at hb; subst hb; intro e; subst e; exact hn ha⟩
theorem segsTier_nodup (c : Cf) (t : Int) : ∀ (nums : List Nm) (l : List Sg), l.Nodup → (segsTier c t nums l).Nodup
  | [], l, h => by simpa [segsTier] using h
  | x :: r, l, h => by
    have := segsTier_nodup c t r (addSg l (segOf c t x)) (addSg_nodup h)
    simpa only [segsTier, List.foldl_cons] using this
theorem segsTo_nodup (c : Cf) (nums : List Nm) : ∀ k, (segsTo c nums k).Nodup
  | 0 => by simp [segsTo]
  | k + 1 => by rw [segsTo_succ]; exact segsTier_nodup c _ nums _ (segsTo_nodup c nums k)
theorem segsOf_nodup (c : Cf) (nums : List Nm) : (segsOf c nums).Nodup := segsTo_nodup c nums _

/-- one number more in a cell. -/
def addCl (a : Cl) (v : Int) : Cl := ⟨a.cnt + 1, a.sum + v, if a.cnt = 0 ∨ v < a.mn then v else a.mn, if a.cnt = 0 ∨ a.mx < v then v else a.mx⟩
def stepCl (c : Cf) (s : Sg) (a : Cl) (x : Nm) : Cl := if segOf c s.t x = s then addCl a x.val else a
def cellOf (c : Cf) (s : Sg) (nums : List Nm) : Cl := nums.foldl (stepCl c s) ⟨0, 0, 0, 0⟩
theorem cellOf_take (c : Cf) (s : Sg) (nums : List Nm) (i : Nat) (x : Nm) (h : nums[i]? = some x) : cellOf c s (nums.take (i + 1)) = stepCl c s (cellOf c s (nums.take i)) x := by
  obtain ⟨hl, hx⟩ := List.getElem?_eq_some_iff.1 h
  rw [List.take_succ_eq_append_getElem hl, hx]; simp [cellOf]
theorem cellOf_snoc (c : Cf) (s : Sg) (nums : List Nm) (x : Nm) : cellOf c s (nums ++ [x]) = stepCl c s (cellOf c s nums) x := by simp [cellOf]

/-- what a segment uses. -/
def useOf (c : Cf) (nums : List Nm) (rc : List Sg) (s : Sg) : Int := if s ∈ rc then 0 else if s.t = -1 then (cellOf c s nums).cnt else 2
def usedOf (c : Cf) (nums : List Nm) (rc l : List Sg) : Int := l.foldl (fun n s => n + useOf c nums rc s) 0
def RM.used (m : RM) : Int := usedOf m.c m.nums m.gone (segsOf m.c m.nums)
theorem usedOf_take (c : Cf) (nums : List Nm) (rc l : List Sg) (i : Nat) (s : Sg) (h : l[i]? = some s) : usedOf c nums rc (l.take (i + 1)) = usedOf c nums rc (l.take i) + useOf c nums rc s := by
  obtain ⟨hl, hx⟩ := List.getElem?_eq_some_iff.1 h
  rw [List.take_succ_eq_append_getElem hl, hx]; simp [usedOf]

/-- the bounds of a cell of at most so many 32-bit numbers. -/
def Nm.ok (x : Nm) : Prop := -2147483648 ≤ x.val ∧ x.val ≤ 2147483647 ∧ 0 ≤ x.tm ∧ x.tm ≤ 100000 ∧ 0 ≤ x.ser ∧ x.ser < 4
theorem cellOf_bounds (c : Cf) (s : Sg) : ∀ (nums : List Nm) (a : Cl) (k : Nat), (∀ x ∈ nums, x.ok) → (0 ≤ a.cnt ∧ a.cnt ≤ k ∧ -(2147483648 * (k : Int)) ≤ a.sum ∧ a.sum ≤ 2147483648 * (k : Int)) →
    0 ≤ (nums.foldl (stepCl c s) a).cnt ∧ (nums.foldl (stepCl c s) a).cnt ≤ k + nums.length ∧ -(2147483648 * ((k : Int) + nums.length)) ≤ (nums.foldl (stepCl c s) a).sum ∧ (nums.foldl (stepCl c s) a).sum ≤ 2147483648 * ((k : Int) + nums.length)
  | [], a, k, _, h => by simp; omega
  | x :: r, a, k, hx, h => by
    have h0 := hx x (by simp)
    unfold Nm.ok at h0
    have := cellOf_bounds c s r (stepCl c s a x) (k + 1) (fun y hy => hx y (by simp [hy])) (by
      unfold stepCl; split
      · simp only [addCl]; omega
      · omega)
    rw [List.foldl_cons, List.length_cons]
    omega
theorem cellOf_bound {c : Cf} {s : Sg} {nums : List Nm} (h : ∀ x ∈ nums, x.ok) : 0 ≤ (cellOf c s nums).cnt ∧ (cellOf c s nums).cnt ≤ nums.length ∧ -(2147483648 * (nums.length : Int)) ≤ (cellOf c s nums).sum ∧ (cellOf c s nums).sum ≤ 2147483648 * (nums.length : Int) := by
  have := cellOf_bounds c s nums ⟨0, 0, 0, 0⟩ 0 h (by simp)
  simpa [cellOf] using this
theorem usedOf_bounds {c : Cf} {nums : List Nm} {rc : List Sg} (h : ∀ x ∈ nums, x.ok) : ∀ (l : List Sg) (u : Int), 0 ≤ u → 0 ≤ l.foldl (fun n s => n + useOf c nums rc s) u ∧ l.foldl (fun n s => n + useOf c nums rc s) u ≤ u + l.length * (nums.length + 2)
  | [], u, hu => by simp; exact hu
  | s :: r, u, hu => by
    have hc := cellOf_bound (c := c) (s := s) h
    have hb : 0 ≤ useOf c nums rc s ∧ useOf c nums rc s ≤ nums.length + 2 := by
      unfold useOf
      split
      · omega
      · split <;> omega
    have := usedOf_bounds (c := c) (rc := rc) h r (u + useOf c nums rc s) (by omega)
    have e : ((s :: r).length : Int) * (nums.length + 2) = r.length * (nums.length + 2) + (nums.length + 2) := by
      rw [List.length_cons]; push_cast; rw [Int.add_mul]; omega
    rw [List.foldl_cons, e]; omega
theorem usedOf_bound {c : Cf} {nums : List Nm} {rc l : List Sg} (h : ∀ x ∈ nums, x.ok) : 0 ≤ usedOf c nums rc l ∧ usedOf c nums rc l ≤ l.length * (nums.length + 2) := by
  have := usedOf_bounds (c := c) (rc := rc) h l 0 (by omega)
  unfold usedOf; omega

end Go.Proofs.YtgadceofpbfleaaGreat
