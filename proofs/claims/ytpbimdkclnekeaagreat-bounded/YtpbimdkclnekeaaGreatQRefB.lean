import Derived.Test.YtpbimdkclnekeaaGreatQRef3

namespace Go.Proofs.YtpbimdkclnekeaaGreat
open Go.RowKit
set_option linter.unusedVariables false

theorem owns_base {w : World} {b b' : Nat} {e : TypeId} {size : Nat} {v : Value} {n : Nat} {xs : List Value} (h : w.ownsRow b e size v n xs) (hb : b' ≤ b) : w.ownsRow b' e size v n xs := by
  refine ⟨h.1, ?_⟩
  rcases h.2 with h2 | ⟨g, cap, cur, rfl, hg, r⟩
  · exact .inl h2
  · exact .inr ⟨g, cap, cur, rfl, Nat.le_trans hb hg, r⟩

end Go.Proofs.YtpbimdkclnekeaaGreat

namespace Go.Proofs.YtpbimdkclnekeaaGreat
open Go.RowKit
set_option linter.unusedVariables false

def headRoll (m : RM) (s : Sg) : Bool := !(s.t == -1) && !memB s m.pub && !memB s m.gone && !decide (m.now - m.c.la < m.c.end s)
def headReclaim (m : RM) (s : Sg) : Bool := !memB s m.gone && !(decide (0 ≤ s.t) && !memB s m.pub) && !decide (m.now < m.c.end s + m.c.keep s.t)
def bars1 (m : RM) (s x : Sg) : Bool := onB m.c s x && decide (0 ≤ x.t) && !memB x m.pub
def bars2 (m : RM) (s x : Sg) : Bool := onB m.c x s && !memB x m.pub && !memB x m.gone
def readyB1 (m : RM) (s : Sg) (l : List Sg) : Bool := headRoll m s && l.all (fun x => !bars1 m s x)
def readyB2 (m : RM) (s : Sg) (l : List Sg) : Bool := headReclaim m s && l.all (fun x => !bars2 m s x)

end Go.Proofs.YtpbimdkclnekeaaGreat

namespace Go.Proofs.YtpbimdkclnekeaaGreat
open Go.RowKit
set_option linter.unusedVariables false

end Go.Proofs.YtpbimdkclnekeaaGreat

namespace Go.Proofs.YtpbimdkclnekeaaGreat
open Go.RowKit
set_option linter.unusedVariables false

def newTk (m : RM) (kind : Int) (s : Sg) : Tk := ⟨kind, s, m.now, 0, 0, 0, 0, -1, 0⟩
def pickTk (kind : Int) (s : Sg) (t x : Tk) : Tk := if x.kind = kind ∧ x.s = s then x else t
def taskFor (m : RM) (kind : Int) (s : Sg) : Tk := m.tasks.foldl (pickTk kind s) (newTk m kind s)
def readyK (m : RM) (kind : Int) (s : Sg) (l : List Sg) : Bool := if kind = 1 then readyB1 m s l else readyB2 m s l
def stepK (m : RM) (l : List Sg) (kind : Int) (out : List Tk) (s : Sg) : List Tk := if readyK m kind s l then insBy lessB (taskFor m kind s) out else out
def settleTo (m : RM) (l : List Sg) (i : Nat) : List Tk := (l.take i).foldl (fun out s => stepK m l 2 (stepK m l 1 out s) s) []
def RM.settled (m : RM) : RM := { m with tasks := settleTo m (segsOf m.c m.nums) (segsOf m.c m.nums).length }

theorem row_apart {w : World} {p : Nat} {cs : Array Value} {T e : TypeId} {fr : Nat × Nat} {B size n : Nat} {v : Value} {xs : List Value} (h : w.heap[p]? = some (.cells cs T fr)) (hr : w.ownsRow B e size v n xs) (hT : T ≠ e) : ∀ k, v.ownBlock = some k → ¬ k = p := fun k hk hkp => by
  subst hkp
  obtain ⟨cur, hc⟩ := owns_type hr hk
  rw [h] at hc
  injection hc with hc; injection hc with _ hc; exact hT hc
end Go.Proofs.YtpbimdkclnekeaaGreat

namespace Go.Proofs.YtpbimdkclnekeaaGreat
open Go.RowKit
set_option linter.unusedVariables false

theorem RefAt.setNow {B : Nat} {w : World} {p : Nat} {m : RM} {tv nv pv gv kv : Value} (h : RefAt B w p m tv nv pv gv kv) (n : Int) : RefAt B (w.setCell ⟨p, 7, none⟩ (.int .i64 n)) p { m with now := n } tv nv pv gv kv := by
  have hk : Kept (fun k => k = p) w (w.setCell ⟨p, 7, none⟩ (.int .i64 n)) := kept_set (Kept.refl _ _) rfl
  exact ⟨rset (i := 7) h.head (.int .i64 n), h.base, owns_kept h.trow hk (row_apart h.head h.trow (by decide)), owns_kept h.nrow hk (row_apart h.head h.nrow (by decide)), owns_kept h.prow hk (row_apart h.head h.prow (by decide)), owns_kept h.grow hk (row_apart h.head h.grow (by decide)), owns_kept h.krow hk (row_apart h.head h.krow (by decide))⟩

/-- P5, plainly, where no job is leased. -/
def RM.tick (m : RM) (n : Int) : RM × Int := if n < 1 ∨ 1000 < n ∨ 100000 < m.now + n then (m, 5) else ({ m with now := m.now + n }.settled, 0)
end Go.Proofs.YtpbimdkclnekeaaGreat

namespace Go.Proofs.YtpbimdkclnekeaaGreat
open Go.RowKit
set_option linter.unusedVariables false

theorem rowns_drew {w : World} {base size n : Nat} {e : TypeId} {v : Value} {xs : List Value} (h : w.ownsRow base e size v n xs) : w.drew.ownsRow base e size v n xs := h
theorem rgrown_drew {w w' : World} {row : Option Nat} (h : w.drew.grownBy w' row) : w.grownBy w' row := ⟨h.os, h.tape, h.output, h.size, h.block⟩
theorem rlast_drew (w : World) (o : Obj) : (w.alloc o).drew.heap[w.heap.size]? = some o := rlast w o
theorem rows_apart {w : World} {B1 B2 s1 s2 n1 n2 : Nat} {e1 e2 : TypeId} {v1 v2 : Value} {x1 x2 : List Value} (h1 : w.ownsRow B1 e1 s1 v1 n1 x1) (h2 : w.ownsRow B2 e2 s2 v2 n2 x2) (hT : e1 ≠ e2) : ∀ k, v1.ownBlock = some k → ¬ v2.ownBlock = some k := fun k hk hk2 => by
  obtain ⟨c1, hc1⟩ := owns_type h1 hk
  obtain ⟨c2, hc2⟩ := owns_type h2 hk2
  rw [hc1] at hc2
  injection hc2 with hc; injection hc with _ hc; exact hT hc
theorem RefAt.setNums {B : Nat} {w w5 : World} {p : Nat} {m : RM} {tv nv pv gv kv z : Value} {x : Nm} (h : RefAt B w p m tv nv pv gv kv) (hk : Kept (fun k => nv.ownBlock = some k) w w5) (hown : w5.ownsRow B 269 3 z (m.nums ++ [x]).length ((m.nums ++ [x]).flatMap nmV)) : RefAt B (w5.setCell ⟨p, 8, none⟩ z) p { m with nums := m.nums ++ [x] } tv z pv gv kv := by
  have hp5 := hk.heap h.head (fun e => row_apart h.head h.nrow (by decide) p e rfl)
  have hs : Kept (fun k => k = p) w5 (w5.setCell ⟨p, 8, none⟩ z) := kept_set (Kept.refl _ _) rfl
  have a1 := owns_kept h.trow hk (rows_apart h.trow h.nrow (by decide))
  have a2 := owns_kept h.prow hk (rows_apart h.prow h.nrow (by decide))
  have a3 := owns_kept h.grow hk (rows_apart h.grow h.nrow (by decide))
  have a4 := owns_kept h.krow hk (rows_apart h.krow h.nrow (by decide))
  exact ⟨rset (i := 8) hp5 z, h.base, owns_kept a1 hs (row_apart hp5 a1 (by decide)), owns_kept hown hs (row_apart hp5 hown (by decide)), owns_kept a2 hs (row_apart hp5 a2 (by decide)), owns_kept a3 hs (row_apart hp5 a3 (by decide)), owns_kept a4 hs (row_apart hp5 a4 (by decide))⟩

def costTo (m : RM) (L : List Sg) (x : Nm) (k : Nat) : Int := (List.range k).foldl (fun (c : Int) (t : Nat) => if segOf m.c (t : Int) x ∈ L then c else c + 2) (m.used + 1)
/-- P4, plainly. -/
def RM.ingest (m : RM) (ser tm val : Int) : RM × Int :=
  if ser < 0 ∨ 4 ≤ ser then (m, 2)
  else if tm < 0 ∨ m.now < tm then (m, 5)
  else if tm < m.now - m.c.la then (m, 3)
  else if m.c.qu < costTo m (segsOf m.c m.nums) ⟨ser, tm, val⟩ m.c.n then (m, 4)
  else ({ m with nums := m.nums ++ [Nm.mk ser tm val] }.settled, 0)
end Go.Proofs.YtpbimdkclnekeaaGreat

namespace Go.Proofs.YtpbimdkclnekeaaGreat
set_option linter.unusedVariables false

/-- What the program holds of a segment: its state (1 held, 2 waiting) and its cell. -/
structure SV where
  st : Int
  cl : Cl

abbrev LV := List (Sg × SV)
def noCl : Cl := ⟨0, 0, 0, 0⟩
def keysL (L : LV) : List Sg := L.map (·.1)
def getL (L : LV) (s : Sg) : Option SV := (L.find? (fun p => decide (p.1 = s))).map (·.2)
def putL (L : LV) (s : Sg) (v : SV) : LV := if s ∈ keysL L then L.map (fun p => if p.1 = s then (s, v) else p) else L ++ [(s, v)]
def stL (L : LV) (s : Sg) : SV := (getL L s).getD ⟨0, noCl⟩
def useSV (v : SV) : Int := if v.st = 1 then v.cl.cnt else 2
def sumI : List Int → Int
  | [] => 0
  | a :: l => a + sumI l
def usedL (L : LV) : Int := sumI (L.map (fun p => useSV p.2))
def isSt (k : Int) (v : SV) : Int := if v.st = k then 1 else 0
def countL (L : LV) (k : Int) : Int := sumI (L.map (fun p => isSt k p.2))

theorem sumI_append (a b : List Int) : sumI (a ++ b) = sumI a + sumI b := by
  induction a with
  | nil => simp [sumI]
  | cons x l ih => simp only [List.cons_append, sumI, ih]; omega
theorem sumI_perm {a b : List Int} (h : a.Perm b) : sumI a = sumI b := by
  induction h with
  | nil => rfl
  | cons x _ ih => simp only [sumI, ih]
  | swap x y l => simp only [sumI]; omega
  | trans _ _ h1 h2 => exact h1.trans h2
theorem sumI_foldl {α : Type} (f : α → Int) : ∀ (l : List α) (u : Int), l.foldl (fun n s => n + f s) u = u + sumI (l.map f)
  | [], u => by simp [sumI]
  | a :: l, u => by rw [List.foldl_cons, sumI_foldl f l (u + f a)]; simp only [List.map_cons, sumI]; omega

theorem getL_none {L : LV} {s : Sg} : getL L s = none ↔ s ∉ keysL L := by
  unfold getL keysL
  rw [Option.map_eq_none_iff, List.find?_eq_none]
  simp only [decide_eq_true_eq, List.mem_map]
  constructor
  · rintro h ⟨p, hp, rfl⟩; exact h p hp rfl
  · rintro h p hp e; exact h ⟨p, hp, e⟩
theorem getL_mem {L : LV} {s : Sg} {v : SV} (h : getL L s = some v) : (s, v) ∈ L := by
  unfold getL at h
  rw [Option.map_eq_some_iff] at h
  obtain ⟨p, hp, rfl⟩ := h
  have h1 := List.find?_some hp
  have h2 := List.mem_of_find?_eq_some hp
  simp at h1; subst h1; exact h2
theorem getL_of {L : LV} {s : Sg} (h : s ∈ keysL L) : ∃ v, getL L s = some v ∧ (s, v) ∈ L := by
  cases e : getL L s with
  | none => exact absurd h (getL_none.1 e)
  | some v => exact ⟨v, rfl, getL_mem e⟩

theorem keys_putL {L : LV} {s : Sg} {v : SV} {k : Sg} : k ∈ keysL (putL L s v) ↔ k ∈ keysL L ∨ k = s := by
  unfold putL
  by_cases h : s ∈ keysL L
  · rw [if_pos h]
    have : keysL (L.map (fun p => if p.1 = s then (s, v) else p)) = keysL L := by
      unfold keysL
      rw [List.map_map]
      apply List.map_congr_left
      intro p _
      simp only [Function.comp]
      split <;> simp_all
    rw [this]
    constructor
    · exact .inl
    · rintro (h1 | rfl) <;> assumption
  · rw [if_neg h]; simp [keysL]
theorem nodup_putL {L : LV} {s : Sg} {v : SV} (h : (keysL L).Nodup) : (keysL (putL L s v)).Nodup := by
  unfold putL
  by_cases hs : s ∈ keysL L
  · rw [if_pos hs]
    have : keysL (L.map (fun p => if p.1 = s then (s, v) else p)) = keysL L := by
      unfold keysL
      rw [List.map_map]
      apply List.map_congr_left
      intro p _
      simp only [Function.comp]
      split <;> simp_all
    rw [this]; exact h
  · rw [if_neg hs]
    unfold keysL at *
    rw [List.map_append, List.nodup_append]
    refine ⟨h, by simp, fun a ha b hb => ?_⟩
    simp at hb; subst hb; intro e; subst e; exact hs ha
theorem mem_putL {L : LV} {s : Sg} {v : SV} {p : Sg × SV} (h : p ∈ putL L s v) : p = (s, v) ∨ (p ∈ L ∧ p.1 ≠ s) := by
  unfold putL at h
  by_cases hs : s ∈ keysL L
  · rw [if_pos hs, List.mem_map] at h
    obtain ⟨q, hq, rfl⟩ := h
    by_cases e : q.1 = s
    · left; simp [e]
    · right; simp [e, hq]
  · rw [if_neg hs, List.mem_append] at h
    rcases h with h | h
    · right; exact ⟨h, fun e => hs (by unfold keysL; exact List.mem_map.2 ⟨p, h, e⟩)⟩
    · left; simpa using h
/-- what a store does to a sum over the elements. -/
theorem sum_put_new {L : LV} {s : Sg} {v : SV} (f : SV → Int) (h : s ∉ keysL L) : sumI ((putL L s v).map (fun p => f p.2)) = sumI (L.map (fun p => f p.2)) + f v := by
  unfold putL; rw [if_neg h, List.map_append, sumI_append]; simp [sumI]
theorem map_absent {L : LV} {s : Sg} {v : SV} (f : SV → Int) : s ∉ keysL L → (L.map (fun p => if p.1 = s then (s, v) else p)).map (fun p => f p.2) = L.map (fun p => f p.2) := by
  intro h
  rw [List.map_map]
  apply List.map_congr_left
  intro p hp
  have : ¬ p.1 = s := fun e => h (by unfold keysL; exact List.mem_map.2 ⟨p, hp, e⟩)
  simp [this]
theorem sum_put_old {s : Sg} {u v : SV} (f : SV → Int) : ∀ {L : LV}, (keysL L).Nodup → (s, u) ∈ L → sumI ((L.map (fun p => if p.1 = s then (s, v) else p)).map (fun p => f p.2)) = sumI (L.map (fun p => f p.2)) - f u + f v
  | [], _, h => by simp at h
  | q :: L, hn, h => by
    unfold keysL at hn
    rw [List.map_cons, List.nodup_cons] at hn
    rw [List.mem_cons] at h
    rcases h with rfl | h
    · have hm := map_absent (L := L) (s := s) (v := v) f hn.1
      rw [List.map_cons, List.map_cons, List.map_cons, hm]
      simp only [sumI, if_true]; omega
    · have hq : ¬ q.1 = s := fun e => hn.1 (by rw [e]; exact List.mem_map.2 ⟨_, h, rfl⟩)
      have := sum_put_old f (L := L) (s := s) (u := u) (v := v) hn.2 h
      rw [List.map_cons, List.map_cons, List.map_cons]
      simp only [hq, if_false, sumI]
      rw [this]; omega

/-- what the program holds of a segment that is there, where nothing was done. -/
def heldV (c : Cf) (nums : List Nm) (s : Sg) : SV := if s.t = -1 then ⟨1, cellOf c s nums⟩ else ⟨2, noCl⟩
/-- the program's live segments are those of the numbers. -/
structure Live (c : Cf) (nums : List Nm) (L : LV) : Prop where
  nodup : (keysL L).Nodup
  keys : ∀ s, s ∈ keysL L ↔ s ∈ segsOf c nums
  vals : ∀ p ∈ L, p.2 = heldV c nums p.1

section
variable {c : Cf} {nums : List Nm} {L : LV}
theorem Live.get (h : Live c nums L) {s : Sg} (hs : s ∈ segsOf c nums) : getL L s = some (heldV c nums s) := by
  obtain ⟨v, hv, hm⟩ := getL_of ((h.keys s).2 hs)
  rw [hv, ← h.vals _ hm]
theorem Live.perm (h : Live c nums L) : (keysL L).Perm (segsOf c nums) := (List.perm_ext_iff_of_nodup h.nodup (segsOf_nodup c nums)).2 h.keys
theorem Live.form (h : Live c nums L) (f : SV → Int) : sumI (L.map (fun p => f p.2)) = sumI ((segsOf c nums).map (fun s => f (heldV c nums s))) := by
  have e : L.map (fun p => f p.2) = (keysL L).map (fun s => f (heldV c nums s)) := by
    unfold keysL; rw [List.map_map]
    apply List.map_congr_left
    intro p hp
    simp only [Function.comp, h.vals p hp]
  rw [e]; exact sumI_perm (h.perm.map _)
theorem Live.used (h : Live c nums L) : usedL L = usedOf c nums [] (segsOf c nums) := by
  unfold usedL usedOf
  rw [h.form useSV, sumI_foldl (useOf c nums [])]
  have e : (segsOf c nums).map (fun s => useSV (heldV c nums s)) = (segsOf c nums).map (useOf c nums []) := by
    apply List.map_congr_left
    intro s _
    unfold useSV heldV useOf
    by_cases e : s.t = -1 <;> simp [e]
  rw [e]; omega
end

/-- a segment that is there has a number. -/
theorem cell_zero {c : Cf} {s : Sg} : ∀ (nums : List Nm) (a : Cl), (∀ x ∈ nums, ¬ segOf c s.t x = s) → nums.foldl (stepCl c s) a = a
  | [], a, _ => rfl
  | x :: r, a, h => by
    rw [List.foldl_cons, stepCl, if_neg (h x (by simp))]
    exact cell_zero r a (fun y hy => h y (by simp [hy]))
theorem cell_mono {c : Cf} {s : Sg} : ∀ (nums : List Nm) (a : Cl), a.cnt ≤ (nums.foldl (stepCl c s) a).cnt
  | [], a => Int.le_refl _
  | x :: r, a => by
    rw [List.foldl_cons]
    have := cell_mono (c := c) (s := s) r (stepCl c s a x)
    have h2 : a.cnt ≤ (stepCl c s a x).cnt := by
      unfold stepCl; split
      · simp only [addCl]; omega
      · omega
    omega
theorem cell_pos {c : Cf} {s : Sg} : ∀ (nums : List Nm) (a : Cl), 0 ≤ a.cnt → (∃ x ∈ nums, segOf c s.t x = s) → 1 ≤ (nums.foldl (stepCl c s) a).cnt
  | [], a, _, h => by obtain ⟨x, hx, _⟩ := h; simp at hx
  | x :: r, a, h0, h => by
    rw [List.foldl_cons]
    by_cases hx : segOf c s.t x = s
    · have := cell_mono (c := c) (s := s) r (stepCl c s a x)
      have h2 : (stepCl c s a x).cnt = a.cnt + 1 := by simp [stepCl, hx, addCl]
      omega
    · have h2 : stepCl c s a x = a := by simp [stepCl, hx]
      rw [h2]
      obtain ⟨y, hy, e⟩ := h
      rw [List.mem_cons] at hy
      rcases hy with rfl | hy
      · exact absurd e hx
      · exact cell_pos r a h0 ⟨y, hy, e⟩
theorem cell_none {c : Cf} {nums : List Nm} {s : Sg} (h1 : -1 ≤ s.t) (h2 : s.t < c.n) (h : s ∉ segsOf c nums) : cellOf c s nums = ⟨0, 0, 0, 0⟩ :=
  cell_zero nums _ (fun x hx e => h (mem_segsOf.2 ⟨h1, h2, x, hx, e.symm⟩))

def joinNew (v : Int) : Option Cl → Cl
  | none => ⟨1, v, v, v⟩
  | some o => ⟨1 + o.cnt, v + o.sum, if o.mn < v then o.mn else v, if v < o.mx then o.mx else v⟩
def rawKey (c : Cf) (x : Nm) : Sg := segOf c (-1) x
def addRaw (c : Cf) (L : LV) (x : Nm) : LV := putL L (rawKey c x) ⟨1, joinNew x.val ((getL L (rawKey c x)).map (·.cl))⟩
def addTier (c : Cf) (x : Nm) (k : Nat) (L : LV) : LV := if segOf c (k : Int) x ∈ keysL L then L else putL L (segOf c (k : Int) x) ⟨2, noCl⟩
def addTo (c : Cf) (x : Nm) : Nat → LV → LV
  | 0, L => L
  | k + 1, L => addTier c x k (addTo c x k L)
def addL (c : Cf) (L : LV) (x : Nm) : LV := addTo c x c.n (addRaw c L x)
def missL (c : Cf) (L : LV) (x : Nm) : Nat → Int
  | 0 => 0
  | k + 1 => missL c L x k + (if segOf c (k : Int) x ∈ keysL L then 0 else 1)
theorem missL_bounds (c : Cf) (L : LV) (x : Nm) : ∀ k : Nat, 0 ≤ missL c L x k ∧ missL c L x k ≤ k
  | 0 => by simp [missL]
  | k + 1 => by have := missL_bounds c L x k; simp only [missL]; split <;> omega

section
variable {c : Cf} {nums : List Nm} {L : LV}

theorem seg_ne {x : Nm} {i j : Int} (h : i ≠ j) : segOf c i x ≠ segOf c j x := fun e => h (by injection e)

/-- behind the raw segment and k tiers. -/
structure Mid (c : Cf) (nums : List Nm) (x : Nm) (k : Nat) (L : LV) : Prop where
  nodup : (keysL L).Nodup
  keys : ∀ s, s ∈ keysL L ↔ s ∈ segsOf c nums ∨ s = rawKey c x ∨ ∃ j : Nat, j < k ∧ s = segOf c (j : Int) x
  vals : ∀ p ∈ L, p.2 = heldV c (nums ++ [x]) p.1

theorem Live.raw (h : Live c nums L) (x : Nm) (hn : 1 ≤ c.n) : Mid c nums x 0 (addRaw c L x) := by
  refine ⟨nodup_putL h.nodup, fun s => ?_, fun p hp => ?_⟩
  · unfold addRaw; rw [keys_putL, h.keys]; simp
  · rcases mem_putL hp with rfl | ⟨hp, hne⟩
    · have ht : (rawKey c x).t = -1 := rfl
      have hs : segOf c (rawKey c x).t x = rawKey c x := rfl
      show (⟨1, _⟩ : SV) = heldV c (nums ++ [x]) (rawKey c x)
      unfold heldV
      rw [if_pos ht, cellOf_snoc, stepCl, if_pos hs]
      congr 1
      by_cases hm : rawKey c x ∈ segsOf c nums
      · rw [h.get hm]
        have hc0 := cell_pos (c := c) (s := rawKey c x) nums ⟨0, 0, 0, 0⟩ (by simp) (by
          obtain ⟨_, _, y, hy, e⟩ := mem_segsOf.1 hm; exact ⟨y, hy, e.symm⟩)
        have hc1 : ¬ (cellOf c (rawKey c x) nums).cnt = 0 := by unfold cellOf; omega
        simp only [heldV, if_pos ht, Option.map_some, joinNew, addCl]
        generalize cellOf c (rawKey c x) nums = a at *
        simp only [hc1, false_or]
        congr 1
        · omega
        · omega
        · by_cases h1 : a.mn < x.val
          · rw [if_pos h1, if_neg (by omega)]
          · rw [if_neg h1]; split <;> omega
        · by_cases h1 : x.val < a.mx
          · rw [if_pos h1, if_neg (by omega)]
          · rw [if_neg h1]; split <;> omega
      · rw [getL_none.2 (fun hk => hm ((h.keys _).1 hk)), cell_none (by rw [ht]; omega) (by rw [ht]; omega) hm]
        simp [joinNew, addCl]
    · rw [h.vals p hp]
      unfold heldV
      by_cases e : p.1.t = -1
      · rw [if_pos e, if_pos e, cellOf_snoc, stepCl, if_neg]
        rw [e]; exact fun h => hne h.symm
      · rw [if_neg e, if_neg e]

theorem Mid.step {x : Nm} {k : Nat} (h : Mid c nums x k L) : Mid c nums x (k + 1) (addTier c x k L) := by
  unfold addTier
  by_cases hk : segOf c (k : Int) x ∈ keysL L
  · rw [if_pos hk]
    refine ⟨h.nodup, fun s => ?_, h.vals⟩
    rw [h.keys]
    constructor
    · rintro (a | a | ⟨j, hj, a⟩)
      · exact .inl a
      · exact .inr (.inl a)
      · exact .inr (.inr ⟨j, by omega, a⟩)
    · rintro (a | a | ⟨j, hj, a⟩)
      · exact .inl a
      · exact .inr (.inl a)
      · by_cases e : j = k
        · subst e; subst a; exact (h.keys _).1 hk
        · exact .inr (.inr ⟨j, by omega, a⟩)
  · rw [if_neg hk]
    refine ⟨nodup_putL h.nodup, fun s => ?_, fun p hp => ?_⟩
    · rw [keys_putL, h.keys]
      constructor
      · rintro ((a | a | ⟨j, hj, a⟩) | a)
        · exact .inl a
        · exact .inr (.inl a)
        · exact .inr (.inr ⟨j, by omega, a⟩)
        · exact .inr (.inr ⟨k, by omega, a⟩)
      · rintro (a | a | ⟨j, hj, a⟩)
        · exact .inl (.inl a)
        · exact .inl (.inr (.inl a))
        · by_cases e : j = k
          · subst e; exact .inr a
          · exact .inl (.inr (.inr ⟨j, by omega, a⟩))
    · rcases mem_putL hp with rfl | ⟨hp, _⟩
      · show (⟨2, noCl⟩ : SV) = heldV c (nums ++ [x]) (segOf c (k : Int) x)
        unfold heldV
        rw [if_neg (show ¬ (segOf c (k : Int) x).t = -1 by simp only [segOf]; omega)]
      · exact h.vals p hp
theorem Mid.to {x : Nm} (h : Mid c nums x 0 L) : ∀ k, Mid c nums x k (addTo c x k L)
  | 0 => h
  | k + 1 => (Mid.to h k).step
theorem Live.add (h : Live c nums L) (x : Nm) (hn : 1 ≤ c.n) : Live c (nums ++ [x]) (addL c L x) := by
  have m := (h.raw x hn).to c.n
  refine ⟨m.nodup, fun s => ?_, m.vals⟩
  show s ∈ keysL (addTo c x c.n (addRaw c L x)) ↔ _
  rw [m.keys, mem_segsOf, mem_segsOf]
  constructor
  · rintro (⟨h1, h2, y, hy, e⟩ | e | ⟨j, hj, e⟩)
    · exact ⟨h1, h2, y, by simp [hy], e⟩
    · subst e; exact ⟨by simp [rawKey, segOf], by simp [rawKey, segOf]; omega, x, by simp, rfl⟩
    · subst e; exact ⟨by simp only [segOf]; omega, by simp only [segOf]; omega, x, by simp, rfl⟩
  · rintro ⟨h1, h2, y, hy, e⟩
    rw [List.mem_append, List.mem_singleton] at hy
    rcases hy with hy | rfl
    · exact .inl ⟨h1, h2, y, hy, e⟩
    · by_cases e1 : s.t = -1
      · right; left; rw [e1] at e; exact e
      · right; right
        refine ⟨s.t.toNat, by omega, ?_⟩
        have : ((s.t.toNat : Nat) : Int) = s.t := by omega
        rw [this]; exact e

theorem keys_raw_tier (x : Nm) (j : Nat) (k : Nat) : segOf c (j : Int) x ∈ keysL (addTo c x k (addRaw c L x)) ↔ segOf c (j : Int) x ∈ keysL L ∨ j < k := by
  induction k with
  | zero =>
    show _ ∈ keysL (putL _ _ _) ↔ _
    rw [keys_putL]
    constructor
    · rintro (h | h)
      · exact .inl h
      · exact absurd h (seg_ne (by omega))
    · rintro (h | h)
      · exact .inl h
      · omega
  | succ k ih =>
    show _ ∈ keysL (addTier c x k _) ↔ _
    unfold addTier
    by_cases hk : segOf c (k : Int) x ∈ keysL (addTo c x k (addRaw c L x))
    · rw [if_pos hk, ih]
      constructor
      · rintro (h | h)
        · exact .inl h
        · exact .inr (by omega)
      · rintro (h | h)
        · exact .inl h
        · by_cases e : j = k
          · subst e; exact ih.1 hk
          · exact .inr (by omega)
    · rw [if_neg hk, keys_putL, ih]
      constructor
      · rintro ((h | h) | h)
        · exact .inl h
        · exact .inr (by omega)
        · right
          have : (j : Int) = (k : Int) := by injection h
          omega
      · rintro (h | h)
        · exact .inl (.inl h)
        · by_cases e : j = k
          · subst e; exact .inr rfl
          · exact .inl (.inr (by omega))
theorem used_to (x : Nm) (k : Nat) : usedL (addTo c x k (addRaw c L x)) = usedL (addRaw c L x) + 2 * missL c L x k := by
  induction k with
  | zero => simp [addTo, missL]
  | succ k ih =>
    show usedL (addTier c x k _) = _
    unfold addTier
    have hk := keys_raw_tier (c := c) (L := L) x k k
    simp only [Nat.lt_irrefl, or_false] at hk
    by_cases h : segOf c (k : Int) x ∈ keysL L
    · rw [if_pos (hk.2 h), ih]; simp [missL, h]
    · rw [if_neg (fun a => h (hk.1 a))]
      unfold usedL at ih ⊢
      rw [sum_put_new useSV (fun a => h (hk.1 a)), ih]; simp [missL, h, useSV]; omega
end

end Go.Proofs.YtpbimdkclnekeaaGreat
