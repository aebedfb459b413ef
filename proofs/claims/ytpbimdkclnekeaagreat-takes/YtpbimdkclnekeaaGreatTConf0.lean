import Derived.WalkKit

namespace Go.Proofs.YtpbimdkclnekeaaGreat
def inB (x lo hi : Int) : Bool := decide (lo <= x) && decide (x <= hi)
theorem zdr (x lo hi : Int) : inB x lo hi = true ↔ lo <= x /\ x <= hi := by simp [inB]
theorem inB_false (x lo hi : Int) : inB x lo hi = false ↔ ¬ (lo <= x /\ x <= hi) := by
 rw [<- zdr]; simp
def codeOf (b : Bool) : Int := if b then 0 else 1
theorem codeOf_true {b : Bool} (h : b = true) : codeOf b = 0 := by rw [h]; rfl
theorem codeOf_false {b : Bool} (h : b = false) : codeOf b = 1 := by rw [h]; rfl
def down (F : Nat -> Int) : Nat -> Int -> Bool
 | 0, _ => false
 | k + 1, t => F t.toNat == -1 || down F k (F t.toNat)
def zbj (n : Nat) (F : Nat -> Int) : Nat -> Int -> Bool
 | 0, _ => false
 | k + 1, t => t == -1 || (!(decide (t < -1) || decide ((n : Int) <= t)) && zbj n F k (F t.toNat))
def allB (n : Nat) (p : Nat -> Bool) : Bool := (List.range n).all p
theorem allB_iff (n : Nat) (p : Nat -> Bool) : allB n p = true ↔ ∀ i, i < n -> p i = true := by simp [allB]
theorem allB_zero (p : Nat -> Bool) : allB 0 p = true := by simp [allB]
theorem allB_succ (n : Nat) (p : Nat -> Bool) : allB (n + 1) p = (allB n p && p n) := by
 rw [Bool.eq_iff_iff]; simp only [allB_iff, Bool.and_eq_true]
 constructor
 ·intro h; exact ⟨fun i hi => h i (by omega), h n (by omega)⟩
 ·rintro ⟨h1, h2⟩ i hi
  by_cases e : i = n
  ·subst e; exact h2
  ·exact h1 i (by omega)
theorem zcs (n : Nat) (p : Nat -> Bool) (i : Nat) (hi : i < n) (h : p i = false) : allB n p = false := by
 rw [Bool.eq_false_iff]; intro hh; rw [allB_iff] at hh; rw [hh i hi] at h; cases h
def zbr (wi : Int) (W : Nat -> Int) (t : Int) : Int := if t = -1 then wi else W t.toNat
def tierB (n : Nat) (F W K : Nat -> Int) (i : Nat) : Bool := inB (F i) (-1) ((n : Int) - 1) && inB (W i) 1 1000 && inB (K i) 0 1000
def fitB (n : Nat) (wi : Int) (F W : Nat -> Int) (i : Nat) : Bool := (W i % zbr wi W (F i) == 0) && down F n i
def zcd (s le la wi ke qu : Int) (n : Nat) (F W K : Nat -> Int) : Bool :=
 inB s 1 4 && inB le 1 100 && inB la 0 100 && inB wi 1 50 && inB ke 0 1000 && inB qu 1 400 && inB n 1 4 && allB n (tierB n F W K) && allB n (fitB n wi F W)
def tierD (n : Nat) (F W K : Nat -> Int) (i : Nat) : Bool := zbj n F (n + 1) i && inB (W i) 1 1000 && inB (K i) 0 1000
def fitD (wi : Int) (F W : Nat -> Int) (i : Nat) : Bool := W i % zbr wi W (F i) == 0
def headB (s le la wi ke qu : Int) (n : Nat) : Bool :=
 inB s 1 4 && inB le 1 100 && inB la 0 100 && inB wi 1 50 && inB ke 0 1000 && inB qu 1 400 && inB n 1 4
def rightD (s le la wi ke qu : Int) (n : Nat) (F W K : Nat -> Int) : Bool :=
 headB s le la wi ke qu n && allB n (tierD n F W K) && allB n (fitD wi F W)
theorem looks_down (n : Nat) (F : Nat -> Int) (hF : ∀ i, i < n -> -1 <= F i /\ F i < n) : ∀ (k : Nat) (t : Int), 0 <= t -> t < n -> zbj n F (k + 1) t = down F k t
 | 0, t, h0, h1 => by
  have a : (t == -1) = false := by simp; omega
  rw [zbj, a]; simp [zbj, down]
 | k + 1, t, h0, h1 => by
  have hb := hF t.toNat (by omega)
  have e1 : zbj n F (k + 1 + 1) t = zbj n F (k + 1) (F t.toNat) := by
   have a : (t == -1) = false := by simp; omega
   have b : decide (t < -1) = false := by simp; omega
   have c : decide ((n : Int) <= t) = false := by simp; omega
   rw [zbj, a, b, c]; simp
  rw [e1, down]
  by_cases e : F t.toNat = -1
  ·simp [zbj, e]
  ·rw [looks_down n F hF k (F t.toNat) (by omega) hb.2]
   have a : (F t.toNat == -1) = false := by simpa using e
   rw [a]; simp
theorem range_of_looks (n : Nat) (F : Nat -> Int) (i : Nat) (hi : i < n) (h : zbj n F (n + 1) i = true) : -1 <= F i /\ F i < n := by
 obtain ⟨m, rfl⟩ : ∃ m, n = m + 1 := ⟨n - 1, by omega⟩
 have a : ((i : Int) == -1) = false := beq_eq_false_iff_ne.2 (by omega)
 rw [zbj, a, zbj] at h
 simp at h
 omega
theorem right_same (s le la wi ke qu : Int) (n : Nat) (F W K : Nat -> Int) : zcd s le la wi ke qu n F W K = rightD s le la wi ke qu n F W K := by
 rw [Bool.eq_iff_iff]
 simp only [zcd, rightD, headB, Bool.and_eq_true, allB_iff, and_assoc]
 constructor
 ·rintro ⟨h1, h2, h3, h4, h5, h6, h7, h8, h9⟩
  have hF : ∀ i, i < n -> -1 <= F i /\ F i < n := fun i hi => by
   have := h8 i hi; simp only [tierB, Bool.and_eq_true, zdr] at this; omega
  refine ⟨h1, h2, h3, h4, h5, h6, h7, fun i hi => ?_, fun i hi => ?_⟩
  ·have a := h8 i hi; have b := h9 i hi
   simp only [tierB, fitB, Bool.and_eq_true] at a b
   simp only [tierD, Bool.and_eq_true]
   refine ⟨⟨?_, a.1.2⟩, a.2⟩
   rw [looks_down n F hF n i (by omega) (by omega)]; exact b.2
  ·have b := h9 i hi
   simp only [fitB, Bool.and_eq_true] at b
   exact b.1
 ·rintro ⟨h1, h2, h3, h4, h5, h6, h7, h8, h9⟩
  have hF : ∀ i, i < n -> -1 <= F i /\ F i < n := fun i hi => by
   have := h8 i hi; simp only [tierD, Bool.and_eq_true] at this; exact range_of_looks n F i hi this.1.1
  refine ⟨h1, h2, h3, h4, h5, h6, h7, fun i hi => ?_, fun i hi => ?_⟩
  ·have a := h8 i hi; have b := hF i hi
   simp only [tierD, Bool.and_eq_true] at a
   simp only [tierB, Bool.and_eq_true, zdr]
   refine ⟨⟨by omega, ?_⟩, ?_⟩
   ·have := a.1.2; rwa [zdr] at this
   ·have := a.2; rwa [zdr] at this
  ·have a := h8 i hi; have b := h9 i hi
   simp only [tierD, Bool.and_eq_true] at a
   simp only [fitB, Bool.and_eq_true]
   refine ⟨b, ?_⟩
   rw [<- looks_down n F hF n i (by omega) (by omega)]; exact a.1.1
end Go.Proofs.YtpbimdkclnekeaaGreat
