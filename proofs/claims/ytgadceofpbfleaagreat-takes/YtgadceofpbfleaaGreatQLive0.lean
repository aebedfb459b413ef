import Derived.Test.YtgadceofpbfleaaGreatQRefE

/- The program's live segments, as a list by keys, beside the document's numbers: where nothing was picked. -/
namespace Go.Proofs.YtgadceofpbfleaaGreat
set_option linter.unusedVariables false

/-- What the program holds of a segment: its state (1 held, 2 waiting) and its cell. -/
structure SV where
  st : Int
  cl : Cl

abbrev LV := List (Sg × SV)
def noCl : Cl := ⟨0, 0, 0, 0⟩
def keysL (L : LV) : List Sg := L.map (·.1)
def getL (L : LV) (s : Sg) : Option SV := (L.find? (fun p => decide (p.1 = s))).map (·.2)
def putL (L : LV) (s : Sg) (v : SV) : LV := if s ∈ keysL L then L.map (fun p => if p.1 = s then (s, v) else p) else L ++ [(s, v)]
def stL (L : LV) (s : Sg) : SV := (getL L s).getD ⟨0, noCl⟩
def useSV (v : SV) : Int := if v.st = 1 then v.cl.cnt else 2
def sumI : List Int → Int
  | [] => 0
  | a :: l => a + sumI l
def usedL (L : LV) : Int := sumI (L.map (fun p => useSV p.2))
def isSt (k : Int) (v : SV) : Int := if v.st = k then 1 else 0
def countL (L : LV) (k : Int) : Int := sumI (L.map (fun p => isSt k p.2))

theorem sumI_append (a b : List Int) : sumI (a ++ b) = sumI a + sumI b := by
  induction a with
  | nil => simp [sumI]
  | cons x l ih => simp only [List.cons_append, sumI, ih]; omega
theorem sumI_perm {a b : List Int} (h : a.Perm b) : sumI a = sumI b := by
  induction h with
  | nil => rfl
  | cons x _ ih => simp only [sumI, ih]
  | swap x y l => simp only [sumI]; omega
  | trans _ _ h1 h2 => exact h1.trans h2
theorem sumI_foldl {α : Type} (f : α → Int) : ∀ (l : List α) (u : Int), l.foldl (fun n s => n + f s) u = u + sumI (l.map f)
  | [], u => by simp [sumI]
  | a :: l, u => by rw [List.foldl_cons, sumI_foldl f l (u + f a)]; simp only [List.map_cons, sumI]; omega

theorem getL_none {L : LV} {s : Sg} : getL L s = none ↔ s ∉ keysL L := by
  unfold getL keysL
  rw [Option.map_eq_none_iff, List.find?_eq_none]
  simp only [decide_eq_true_eq, List.mem_map]
  constructor
  · rintro h ⟨p, hp, rfl⟩; exact h p hp rfl
  · rintro h p hp e; exact h ⟨p, hp, e⟩
theorem getL_mem {L : LV} {s : Sg} {v : SV} (h : getL L s = some v) : (s, v) ∈ L := by
  unfold getL at h
  rw [Option.map_eq_some_iff] at h
  obtain ⟨p, hp, rfl⟩ := h
  have h1 := List.find?_some hp
  have h2 := List.mem_of_find?_eq_some hp
  simp at h1; subst h1; exact h2
theorem getL_of {L : LV} {s : Sg} (h : s ∈ keysL L) : ∃ v, getL L s = some v ∧ (s, v) ∈ L := by
  cases e : getL L s with
  | none => exact absurd h (getL_none.1 e)
  | some v => exact ⟨v, rfl, getL_mem e⟩

theorem keys_putL {L : LV} {s : Sg} {v : SV} {k : Sg} : k ∈ keysL (putL L s v) ↔ k ∈ keysL L ∨ k = s := by
  unfold putL
  by_cases h : s ∈ keysL L
  · rw [if_pos h]
    have : keysL (L.map (fun p => if p.1 = s then (s, v) else p)) = keysL L := by
      unfold keysL
      rw [List.map_map]
      apply List.map_congr_left
      intro p _
      simp only [Function.comp]
      split <;> simp_all
    rw [this]
    constructor
    · exact .inl
    · rintro (h1 | rfl) <;> assumption
  · rw [if_neg h]; simp [keysL]
theorem nodup_putL {L : LV} {s : Sg} {v : SV} (h : (keysL L).Nodup) : (keysL (putL L s v)).Nodup := by
  unfold putL
  by_cases hs : s ∈ keysL L
  · rw [if_pos hs]
    have : keysL (L.map (fun p => if p.1 = s then (s, v) else p)) = keysL L := by
      unfold keysL
      rw [List.map_map]
      apply List.map_congr_left
      intro p _
      simp only [Function.comp]
      split <;> simp_all
    rw [this]; exact h
  · rw [if_neg hs]
    unfold keysL at *
    rw [List.map_append, List.nodup_append]
    refine ⟨h, by simp, fun a ha b hb => ?_⟩
    simp at hb; subst hb; intro e; subst e; exact hs ha
theorem mem_putL {L : LV} {s : Sg} {v : SV} {p : Sg × SV} (h : p ∈ putL L s v) : p = (s, v) ∨ (p ∈ L ∧ p.1 ≠ s) := by
  unfold putL at h
  by_cases hs : s ∈ keysL L
  · rw [if_pos hs, List.mem_map] at h
    obtain ⟨q, hq, rfl⟩ := h
    by_cases e : q.1 = s
    · left; simp [e]
    · right; simp [e, hq]
  · rw [if_neg hs, List.mem_append] at h
    rcases h with h | h
    · right; exact ⟨h, fun e => hs (by unfold keysL; exact List.mem_map.2 ⟨p, h, e⟩)⟩
    · left; simpa using h
/-- what a store does to a sum over the elements. -/
theorem sum_put_new {L : LV} {s : Sg} {v : SV} (f : SV → Int) (h : s ∉ keysL L) : sumI ((putL L s v).map (fun p => f p.2)) = sumI (L.map (fun p => f p.2)) + f v := by
  unfold putL; rw [if_neg h, List.map_append, sumI_append]; simp [sumI]
theorem map_absent {L : LV} {s : Sg} {v : SV} (f : SV → Int) : s ∉ keysL L → (L.map (fun p => if p.1 = s then (s, v) else p)).map (fun p => f p.2) = L.map (fun p => f p.2) := by
  intro h
  rw [List.map_map]
  apply List.map_congr_left
  intro p hp
  have : ¬ p.1 = s := fun e => h (by unfold keysL; exact List.mem_map.2 ⟨p, hp, e⟩)
  simp [this]
theorem sum_put_old {s : Sg} {u v : SV} (f : SV → Int) : ∀ {L : LV}, (keysL L).Nodup → (s, u) ∈ L → sumI ((L.map (fun p => if p.1 = s then (s, v) else p)).map (fun p => f p.2)) = sumI (L.map (fun p => f p.2)) - f u + f v
  | [], _, h => by simp at h
  | q :: L, hn, h => by
    unfold keysL at hn
    rw [List.map_cons, List.nodup_cons] at hn
    rw [List.mem_cons] at h
    rcases h with rfl | h
    · have hm := map_absent (L := L) (s := s) (v := v) f hn.1
      rw [List.map_cons, List.map_cons, List.map_cons, hm]
      simp only [sumI, if_true]; omega
    · have hq : ¬ q.1 = s := fun e => hn.1 (by rw [e]; exact List.mem_map.2 ⟨_, h, rfl⟩)
      have := sum_put_old f (L := L) (s := s) (u := u) (v := v) hn.2 h
      rw [List.map_cons, List.map_cons, List.map_cons]
      simp only [hq, if_false, sumI]
      rw [this]; omega

/-- what the program holds of a segment that is there, where nothing was done. -/
def heldV (c : Cf) (nums : List Nm) (s : Sg) : SV := if s.t = -1 then ⟨1, cellOf c s nums⟩ else ⟨2, noCl⟩
/-- the program's live segments are those of the numbers. -/
structure Live (c : Cf) (nums : List Nm) (L : LV) : Prop where
  nodup : (keysL L).Nodup
  keys : ∀ s, s ∈ keysL L ↔ s ∈ segsOf c nums
  vals : ∀ p ∈ L, p.2 = heldV c nums p.1

theorem live_nil (c : Cf) : Live c [] [] := ⟨by simp [keysL], fun s => by rw [mem_segsOf]; simp [keysL], by simp⟩

section
variable {c : Cf} {nums : List Nm} {L : LV}
theorem Live.get (h : Live c nums L) {s : Sg} (hs : s ∈ segsOf c nums) : getL L s = some (heldV c nums s) := by
  obtain ⟨v, hv, hm⟩ := getL_of ((h.keys s).2 hs)
  rw [hv, ← h.vals _ hm]
theorem Live.perm (h : Live c nums L) : (keysL L).Perm (segsOf c nums) := (List.perm_ext_iff_of_nodup h.nodup (segsOf_nodup c nums)).2 h.keys
theorem Live.form (h : Live c nums L) (f : SV → Int) : sumI (L.map (fun p => f p.2)) = sumI ((segsOf c nums).map (fun s => f (heldV c nums s))) := by
  have e : L.map (fun p => f p.2) = (keysL L).map (fun s => f (heldV c nums s)) := by
    unfold keysL; rw [List.map_map]
    apply List.map_congr_left
    intro p hp
    simp only [Function.comp, h.vals p hp]
  rw [e]; exact sumI_perm (h.perm.map _)
theorem Live.used (h : Live c nums L) : usedL L = usedOf c nums [] (segsOf c nums) := by
  unfold usedL usedOf
  rw [h.form useSV, sumI_foldl (useOf c nums [])]
  have e : (segsOf c nums).map (fun s => useSV (heldV c nums s)) = (segsOf c nums).map (useOf c nums []) := by
    apply List.map_congr_left
    intro s _
    unfold useSV heldV useOf
    by_cases e : s.t = -1 <;> simp [e]
  rw [e]; omega
end

/-- a segment that is there has a number. -/
theorem cell_zero {c : Cf} {s : Sg} : ∀ (nums : List Nm) (a : Cl), (∀ x ∈ nums, ¬ segOf c s.t x = s) → nums.foldl (stepCl c s) a = a
  | [], a, _ => rfl
  | x :: r, a, h => by
    rw [List.foldl_cons, stepCl, if_neg (h x (by simp))]
    exact cell_zero r a (fun y hy => h y (by simp [hy]))
theorem cell_mono {c : Cf} {s : Sg} : ∀ (nums : List Nm) (a : Cl), a.cnt ≤ (nums.foldl (stepCl c s) a).cnt
  | [], a => Int.le_refl _
  | x :: r, a => by
    rw [List.foldl_cons]
    have := cell_mono (c := c) (s := s) r (stepCl c s a x)
    have h2 : a.cnt ≤ (stepCl c s a x).cnt := by
      unfold stepCl; split
      · simp only [addCl]; omega
      · omega
    omega
theorem cell_pos {c : Cf} {s : Sg} : ∀ (nums : List Nm) (a : Cl), 0 ≤ a.cnt → (∃ x ∈ nums, segOf c s.t x = s) → 1 ≤ (nums.foldl (stepCl c s) a).cnt
  | [], a, _, h => by obtain ⟨x, hx, _⟩ := h; simp at hx
  | x :: r, a, h0, h => by
    rw [List.foldl_cons]
    by_cases hx : segOf c s.t x = s
    · have := cell_mono (c := c) (s := s) r (stepCl c s a x)
      have h2 : (stepCl c s a x).cnt = a.cnt + 1 := by simp [stepCl, hx, addCl]
      omega
    · have h2 : stepCl c s a x = a := by simp [stepCl, hx]
      rw [h2]
      obtain ⟨y, hy, e⟩ := h
      rw [List.mem_cons] at hy
      rcases hy with rfl | hy
      · exact absurd e hx
      · exact cell_pos r a h0 ⟨y, hy, e⟩
theorem cnt_zero_iff {c : Cf} {nums : List Nm} {s : Sg} (h1 : -1 ≤ s.t) (h2 : s.t < c.n) : (cellOf c s nums).cnt = 0 ↔ s ∉ segsOf c nums := by
  constructor
  · intro h hm
    obtain ⟨_, _, x, hx, e⟩ := mem_segsOf.1 hm
    have := cell_pos (c := c) (s := s) nums ⟨0, 0, 0, 0⟩ (by simp) ⟨x, hx, e.symm⟩
    unfold cellOf at h; omega
  · intro h
    have : cellOf c s nums = ⟨0, 0, 0, 0⟩ := cell_zero nums _ (fun x hx e => h (mem_segsOf.2 ⟨h1, h2, x, hx, e.symm⟩))
    rw [this]
theorem cell_none {c : Cf} {nums : List Nm} {s : Sg} (h1 : -1 ≤ s.t) (h2 : s.t < c.n) (h : s ∉ segsOf c nums) : cellOf c s nums = ⟨0, 0, 0, 0⟩ :=
  cell_zero nums _ (fun x hx e => h (mem_segsOf.2 ⟨h1, h2, x, hx, e.symm⟩))

/-- cells joined, the first of them first. -/
def lessCl (a b : Cl) : Cl := if b.mn < a.mn then b else a
def moreCl (a b : Cl) : Cl := if a.mx < b.mx then b else a
def joinNew (v : Int) : Option Cl → Cl
  | none => ⟨1, v, v, v⟩
  | some o => ⟨1 + o.cnt, v + o.sum, if o.mn < v then o.mn else v, if v < o.mx then o.mx else v⟩
def rawKey (c : Cf) (x : Nm) : Sg := segOf c (-1) x
def addRaw (c : Cf) (L : LV) (x : Nm) : LV := putL L (rawKey c x) ⟨1, joinNew x.val ((getL L (rawKey c x)).map (·.cl))⟩
def addTier (c : Cf) (x : Nm) (k : Nat) (L : LV) : LV := if segOf c (k : Int) x ∈ keysL L then L else putL L (segOf c (k : Int) x) ⟨2, noCl⟩
def addTo (c : Cf) (x : Nm) : Nat → LV → LV
  | 0, L => L
  | k + 1, L => addTier c x k (addTo c x k L)
def addL (c : Cf) (L : LV) (x : Nm) : LV := addTo c x c.n (addRaw c L x)
def missL (c : Cf) (L : LV) (x : Nm) : Nat → Int
  | 0 => 0
  | k + 1 => missL c L x k + (if segOf c (k : Int) x ∈ keysL L then 0 else 1)
theorem missL_bounds (c : Cf) (L : LV) (x : Nm) : ∀ k : Nat, 0 ≤ missL c L x k ∧ missL c L x k ≤ k
  | 0 => by simp [missL]
  | k + 1 => by have := missL_bounds c L x k; simp only [missL]; split <;> omega

section
variable {c : Cf} {nums : List Nm} {L : LV}

theorem seg_ne {x : Nm} {i j : Int} (h : i ≠ j) : segOf c i x ≠ segOf c j x := fun e => h (by injection e)

/-- behind the raw segment and k tiers. -/
structure Mid (c : Cf) (nums : List Nm) (x : Nm) (k : Nat) (L : LV) : Prop where
  nodup : (keysL L).Nodup
  keys : ∀ s, s ∈ keysL L ↔ s ∈ segsOf c nums ∨ s = rawKey c x ∨ ∃ j : Nat, j < k ∧ s = segOf c (j : Int) x
  vals : ∀ p ∈ L, p.2 = heldV c (nums ++ [x]) p.1

theorem Live.raw (h : Live c nums L) (x : Nm) (hn : 1 ≤ c.n) : Mid c nums x 0 (addRaw c L x) := by
  refine ⟨nodup_putL h.nodup, fun s => ?_, fun p hp => ?_⟩
  · unfold addRaw; rw [keys_putL, h.keys]; simp
  · rcases mem_putL hp with rfl | ⟨hp, hne⟩
    · have ht : (rawKey c x).t = -1 := rfl
      have hs : segOf c (rawKey c x).t x = rawKey c x := rfl
      show (⟨1, _⟩ : SV) = heldV c (nums ++ [x]) (rawKey c x)
      unfold heldV
      rw [if_pos ht, cellOf_snoc, stepCl, if_pos hs]
      congr 1
      by_cases hm : rawKey c x ∈ segsOf c nums
      · rw [h.get hm]
        have hc0 := cell_pos (c := c) (s := rawKey c x) nums ⟨0, 0, 0, 0⟩ (by simp) (by
          obtain ⟨_, _, y, hy, e⟩ := mem_segsOf.1 hm; exact ⟨y, hy, e.symm⟩)
        have hc1 : ¬ (cellOf c (rawKey c x) nums).cnt = 0 := by unfold cellOf; omega
        simp only [heldV, if_pos ht, Option.map_some, joinNew, addCl]
        generalize cellOf c (rawKey c x) nums = a at *
        simp only [hc1, false_or]
        congr 1
        · omega
        · omega
        · by_cases h1 : a.mn < x.val
          · rw [if_pos h1, if_neg (by omega)]
          · rw [if_neg h1]; split <;> omega
        · by_cases h1 : x.val < a.mx
          · rw [if_pos h1, if_neg (by omega)]
          · rw [if_neg h1]; split <;> omega
      · rw [getL_none.2 (fun hk => hm ((h.keys _).1 hk)), cell_none (by rw [ht]; omega) (by rw [ht]; omega) hm]
        simp [joinNew, addCl]
    · rw [h.vals p hp]
      unfold heldV
      by_cases e : p.1.t = -1
      · rw [if_pos e, if_pos e, cellOf_snoc, stepCl, if_neg]
        rw [e]; exact fun h => hne h.symm
      · rw [if_neg e, if_neg e]

theorem Mid.step {x : Nm} {k : Nat} (h : Mid c nums x k L) : Mid c nums x (k + 1) (addTier c x k L) := by
  unfold addTier
  by_cases hk : segOf c (k : Int) x ∈ keysL L
  · rw [if_pos hk]
    refine ⟨h.nodup, fun s => ?_, h.vals⟩
    rw [h.keys]
    constructor
    · rintro (a | a | ⟨j, hj, a⟩)
      · exact .inl a
      · exact .inr (.inl a)
      · exact .inr (.inr ⟨j, by omega, a⟩)
    · rintro (a | a | ⟨j, hj, a⟩)
      · exact .inl a
      · exact .inr (.inl a)
      · by_cases e : j = k
        · subst e; subst a; exact (h.keys _).1 hk
        · exact .inr (.inr ⟨j, by omega, a⟩)
  · rw [if_neg hk]
    refine ⟨nodup_putL h.nodup, fun s => ?_, fun p hp => ?_⟩
    · rw [keys_putL, h.keys]
      constructor
      · rintro ((a | a | ⟨j, hj, a⟩) | a)
        · exact .inl a
        · exact .inr (.inl a)
        · exact .inr (.inr ⟨j, by omega, a⟩)
        · exact .inr (.inr ⟨k, by omega, a⟩)
      · rintro (a | a | ⟨j, hj, a⟩)
        · exact .inl (.inl a)
        · exact .inl (.inr (.inl a))
        · by_cases e : j = k
          · subst e; exact .inr a
          · exact .inl (.inr (.inr ⟨j, by omega, a⟩))
    · rcases mem_putL hp with rfl | ⟨hp, _⟩
      · show (⟨2, noCl⟩ : SV) = heldV c (nums ++ [x]) (segOf c (k : Int) x)
        unfold heldV
        rw [if_neg (show ¬ (segOf c (k : Int) x).t = -1 by simp only [segOf]; omega)]
      · exact h.vals p hp
theorem Mid.to {x : Nm} (h : Mid c nums x 0 L) : ∀ k, Mid c nums x k (addTo c x k L)
  | 0 => h
  | k + 1 => (Mid.to h k).step
theorem Live.add (h : Live c nums L) (x : Nm) (hn : 1 ≤ c.n) : Live c (nums ++ [x]) (addL c L x) := by
  have m := (h.raw x hn).to c.n
  refine ⟨m.nodup, fun s => ?_, m.vals⟩
  show s ∈ keysL (addTo c x c.n (addRaw c L x)) ↔ _
  rw [m.keys, mem_segsOf, mem_segsOf]
  constructor
  · rintro (⟨h1, h2, y, hy, e⟩ | e | ⟨j, hj, e⟩)
    · exact ⟨h1, h2, y, by simp [hy], e⟩
    · subst e; exact ⟨by simp [rawKey, segOf], by simp [rawKey, segOf]; omega, x, by simp, rfl⟩
    · subst e; exact ⟨by simp only [segOf]; omega, by simp only [segOf]; omega, x, by simp, rfl⟩
  · rintro ⟨h1, h2, y, hy, e⟩
    rw [List.mem_append, List.mem_singleton] at hy
    rcases hy with hy | rfl
    · exact .inl ⟨h1, h2, y, hy, e⟩
    · by_cases e1 : s.t = -1
      · right; left; rw [e1] at e; exact e
      · right; right
        refine ⟨s.t.toNat, by omega, ?_⟩
        have : ((s.t.toNat : Nat) : Int) = s.t := by omega
        rw [this]; exact e

/-- what a number more uses. -/
theorem used_raw (h : Live c nums L) (x : Nm) (hn : 1 ≤ c.n) : usedL (addRaw c L x) = usedL L + 1 := by
  unfold addRaw
  by_cases hm : rawKey c x ∈ keysL L
  · have hs := (h.keys _).1 hm
    have hg := h.get hs
    rw [hg]
    have hv : heldV c nums (rawKey c x) = ⟨1, cellOf c (rawKey c x) nums⟩ := by unfold heldV; rw [if_pos (show (rawKey c x).t = -1 from rfl)]
    unfold usedL putL
    rw [if_pos hm, sum_put_old useSV h.nodup (getL_mem hg), hv]
    simp [useSV, joinNew]; omega
  · rw [getL_none.2 hm]
    unfold usedL
    rw [sum_put_new useSV hm]; simp [useSV, joinNew]
theorem keys_raw_tier (x : Nm) (j : Nat) (k : Nat) : segOf c (j : Int) x ∈ keysL (addTo c x k (addRaw c L x)) ↔ segOf c (j : Int) x ∈ keysL L ∨ j < k := by
  induction k with
  | zero =>
    show _ ∈ keysL (putL _ _ _) ↔ _
    rw [keys_putL]
    constructor
    · rintro (h | h)
      · exact .inl h
      · exact absurd h (seg_ne (by omega))
    · rintro (h | h)
      · exact .inl h
      · omega
  | succ k ih =>
    show _ ∈ keysL (addTier c x k _) ↔ _
    unfold addTier
    by_cases hk : segOf c (k : Int) x ∈ keysL (addTo c x k (addRaw c L x))
    · rw [if_pos hk, ih]
      constructor
      · rintro (h | h)
        · exact .inl h
        · exact .inr (by omega)
      · rintro (h | h)
        · exact .inl h
        · by_cases e : j = k
          · subst e; exact ih.1 hk
          · exact .inr (by omega)
    · rw [if_neg hk, keys_putL, ih]
      constructor
      · rintro ((h | h) | h)
        · exact .inl h
        · exact .inr (by omega)
        · right
          have : (j : Int) = (k : Int) := by injection h
          omega
      · rintro (h | h)
        · exact .inl (.inl h)
        · by_cases e : j = k
          · subst e; exact .inr rfl
          · exact .inl (.inr (by omega))
theorem used_to (x : Nm) (k : Nat) : usedL (addTo c x k (addRaw c L x)) = usedL (addRaw c L x) + 2 * missL c L x k := by
  induction k with
  | zero => simp [addTo, missL]
  | succ k ih =>
    show usedL (addTier c x k _) = _
    unfold addTier
    have hk := keys_raw_tier (c := c) (L := L) x k k
    simp only [Nat.lt_irrefl, or_false] at hk
    by_cases h : segOf c (k : Int) x ∈ keysL L
    · rw [if_pos (hk.2 h), ih]; simp [missL, h]
    · rw [if_neg (fun a => h (hk.1 a))]
      unfold usedL at ih ⊢
      rw [sum_put_new useSV (fun a => h (hk.1 a)), ih]; simp [missL, h, useSV]; omega
theorem used_add (h : Live c nums L) (x : Nm) (hn : 1 ≤ c.n) : usedL (addL c L x) = usedL L + 1 + 2 * missL c L x c.n := by
  unfold addL; rw [used_to, used_raw h x hn]
end

theorem cost_same {m : RM} {L : LV} (h : Live m.c m.nums L) (hg : m.gone = []) (x : Nm) : ∀ k, costTo m (segsOf m.c m.nums) x k = usedL L + 1 + 2 * missL m.c L x k
  | 0 => by
    have : m.used = usedL L := by rw [h.used]; unfold RM.used; rw [hg]
    simp [costTo, missL, this]
  | k + 1 => by
    have ih := cost_same h hg x k
    by_cases hk : segOf m.c (k : Int) x ∈ segsOf m.c m.nums
    · rw [cost_in hk, ih]; simp [missL, (h.keys _).2 hk]
    · have hk2 : ¬ segOf m.c (k : Int) x ∈ keysL L := fun a => hk ((h.keys _).1 a)
      rw [cost_out hk, ih]; simp only [missL, if_neg hk2]; omega

/-- what is counted. -/
theorem sc_sum (m : RM) (hg : m.gone = []) (hp : m.pub = []) : ∀ (l : List Sg) (a : Sc), l.foldl (stepSc m) a = ⟨a.held + sumI (l.map (fun s => if s.t = -1 then 1 else 0)), a.wait + sumI (l.map (fun s => if s.t = -1 then 0 else 1)), a.pub, a.gone⟩
  | [], a => by simp [sumI]
  | s :: l, a => by
    rw [List.foldl_cons]
    by_cases e : s.t = -1
    · rw [stepSc_held (by rw [hg]; simp) e, sc_sum m hg hp l]
      simp only [List.map_cons, sumI, if_pos e]; congr 1 <;> omega
    · rw [stepSc_wait (by rw [hg]; simp) e (by rw [hp]; simp), sc_sum m hg hp l]
      simp only [List.map_cons, sumI, if_neg e]; congr 1 <;> omega
theorem sc_same {m : RM} {L : LV} (h : Live m.c m.nums L) (hg : m.gone = []) (hp : m.pub = []) : scOf m (segsOf m.c m.nums) = ⟨countL L 1, countL L 2, countL L 3, 0⟩ := by
  unfold scOf
  rw [sc_sum m hg hp]
  unfold countL
  rw [h.form (isSt 1), h.form (isSt 2), h.form (isSt 3)]
  have e1 : (fun s : Sg => isSt 1 (heldV m.c m.nums s)) = fun s => if s.t = -1 then 1 else 0 := by
    funext s; unfold isSt heldV; by_cases e : s.t = -1 <;> simp [e]
  have e2 : (fun s : Sg => isSt 2 (heldV m.c m.nums s)) = fun s => if s.t = -1 then 0 else 1 := by
    funext s; unfold isSt heldV; by_cases e : s.t = -1 <;> simp [e]
  have e3 : (fun s : Sg => isSt 3 (heldV m.c m.nums s)) = fun _ => 0 := by
    funext s; unfold isSt heldV; by_cases e : s.t = -1 <;> simp [e]
  have e4 : ∀ l : List Sg, sumI (l.map (fun _ => (0 : Int))) = 0 := by
    intro l; induction l with
    | nil => rfl
    | cons a l ih => simp only [List.map_cons, sumI, ih]; rfl
  rw [e1, e2, e3, e4]; simp

/-- P6, by the live segments. -/
def queryL (L : LV) (s : Sg) : Cl × Int := if (stL L s).st = 0 then (noCl, 10) else if (stL L s).st = 2 then (noCl, 11) else ((stL L s).cl, 0)
theorem query_same {m : RM} {L : LV} (h : Live m.c m.nums L) (hg : m.gone = []) (hp : m.pub = []) {t ser win : Int} (hb : ¬ (t < -1 ∨ m.c.n ≤ t ∨ ser < 0 ∨ 4 ≤ ser ∨ win < 0 ∨ 100000 < win)) (h1 : ¬ m.now - m.c.la < m.c.end ⟨t, ser, win⟩) : m.query t ser win = queryL L ⟨t, ser, win⟩ := by
  by_cases hm : (⟨t, ser, win⟩ : Sg) ∈ segsOf m.c m.nums
  · have h2 : ¬ (cellOf m.c ⟨t, ser, win⟩ m.nums).cnt = 0 := fun e => (cnt_zero_iff (c := m.c) (nums := m.nums) (s := ⟨t, ser, win⟩) (by show -1 ≤ t; omega) (by show t < m.c.n; omega)).1 e hm
    by_cases ht : t = -1
    · rw [query_ok hb h1 h2 (by rw [hg]; simp) (by omega)]
      have : stL L ⟨t, ser, win⟩ = ⟨1, cellOf m.c ⟨t, ser, win⟩ m.nums⟩ := by unfold stL; rw [h.get hm]; simp [heldV, ht]
      unfold queryL; rw [this]; simp
    · rw [query_wait hb h1 h2 (by rw [hg]; simp) ⟨by omega, by rw [hp]; simp⟩]
      have : stL L ⟨t, ser, win⟩ = ⟨2, noCl⟩ := by unfold stL; rw [h.get hm]; simp [heldV, ht]
      unfold queryL; rw [this]; simp [noCl]
  · have h2 : (cellOf m.c ⟨t, ser, win⟩ m.nums).cnt = 0 := (cnt_zero_iff (c := m.c) (nums := m.nums) (s := ⟨t, ser, win⟩) (by show -1 ≤ t; omega) (by show t < m.c.n; omega)).2 hm
    rw [query_empty hb h1 h2]
    have : stL L ⟨t, ser, win⟩ = ⟨0, noCl⟩ := by unfold stL; rw [getL_none.2 (fun a => hm ((h.keys _).1 a))]; rfl
    unfold queryL; rw [this]; simp [noCl]

/-- no job is leased. -/
theorem insBy_mem {α : Type} (lt : α → α → Bool) (x : α) : ∀ (l : List α) (y : α), y ∈ insBy lt x l → y = x ∨ y ∈ l
  | [], y, h => by simp [insBy] at h; exact .inl h
  | a :: l, y, h => by
    unfold insBy at h
    split at h
    · simp at h; rcases h with h | h | h <;> simp [h]
    · rw [List.mem_cons] at h
      rcases h with h | h
      · simp [h]
      · rcases insBy_mem lt x l y h with h | h <;> simp [h]
theorem task_free {m : RM} (h : ∀ x ∈ m.tasks, x.slot = -1) (kind : Int) (s : Sg) : (taskFor m kind s).slot = -1 := by
  unfold taskFor
  have : ∀ (l : List Tk) (t : Tk), (∀ x ∈ l, x.slot = -1) → t.slot = -1 → (l.foldl (pickTk kind s) t).slot = -1 := by
    intro l
    induction l with
    | nil => intro t _ ht; exact ht
    | cons a l ih =>
      intro t hl ht
      rw [List.foldl_cons]
      refine ih _ (fun x hx => hl x (by simp [hx])) ?_
      unfold pickTk; split
      · exact hl a (by simp)
      · exact ht
  exact this _ _ h rfl
theorem stepK_free {m : RM} (h : ∀ x ∈ m.tasks, x.slot = -1) (l : List Sg) (kind : Int) (out : List Tk) (s : Sg) (ho : ∀ x ∈ out, x.slot = -1) : ∀ x ∈ stepK m l kind out s, x.slot = -1 := by
  unfold stepK; split
  · intro x hx
    rcases insBy_mem _ _ _ _ hx with rfl | hx
    · exact task_free h kind s
    · exact ho x hx
  · exact ho
theorem settled_free {m : RM} (h : ∀ x ∈ m.tasks, x.slot = -1) : ∀ x ∈ m.settled.tasks, x.slot = -1 := by
  show ∀ x ∈ settleTo m _ _, _
  unfold settleTo
  have : ∀ (l : List Sg) (L0 : List Sg) (out : List Tk), (∀ x ∈ out, x.slot = -1) → ∀ x ∈ l.foldl (fun out s => stepK m L0 2 (stepK m L0 1 out s) s) out, x.slot = -1 := by
    intro l
    induction l with
    | nil => intro _ out ho; exact ho
    | cons a l ih =>
      intro L0 out ho
      rw [List.foldl_cons]
      exact ih _ _ (stepK_free h _ _ _ _ (stepK_free h _ _ _ _ ho))
  exact this _ _ _ (by simp)
end Go.Proofs.YtgadceofpbfleaaGreat
