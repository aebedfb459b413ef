import Derived.WalkKit

namespace Go.Proofs.YtpbimdkclnekeaaGreat
def inB (x lo hi : Int) : Bool := decide (lo <= x) && decide (x <= hi)
theorem inB_iff (x lo hi : Int) : inB x lo hi = true ↔ lo <= x /\ x <= hi := by simp [inB]
def codeOf (b : Bool) : Int := if b then 0 else 1
def down (F : Nat -> Int) : Nat -> Int -> Bool
 | 0, _ => false
 | k + 1, t => F t.toNat == -1 || down F k (F t.toNat)
def allB (n : Nat) (p : Nat -> Bool) : Bool := (List.range n).all p
theorem allB_iff (n : Nat) (p : Nat -> Bool) : allB n p = true ↔ ∀ i, i < n -> p i = true := by simp [allB]
theorem allB_zero (p : Nat -> Bool) : allB 0 p = true := by simp [allB]
theorem allB_succ (n : Nat) (p : Nat -> Bool) : allB (n + 1) p = (allB n p && p n) := by
 rw [Bool.eq_iff_iff]; simp only [allB_iff, Bool.and_eq_true]
 constructor
 ·intro h; exact ⟨fun i hi => h i (by omega), h n (by omega)⟩
 ·rintro ⟨h1, h2⟩ i hi
  by_cases e : i = n
  ·subst e; exact h2
  ·exact h1 i (by omega)
theorem zfg (n : Nat) (p : Nat -> Bool) (i : Nat) (hi : i < n) (h : p i = false) : allB n p = false := by
 rw [Bool.eq_false_iff]; intro hh; rw [allB_iff] at hh; rw [hh i hi] at h; cases h
def zbp (wi : Int) (W : Nat -> Int) (t : Int) : Int := if t = -1 then wi else W t.toNat
def tierB (n : Nat) (F W K : Nat -> Int) (i : Nat) : Bool := inB (F i) (-1) ((n : Int) - 1) && inB (W i) 1 1000 && inB (K i) 0 1000
def fitB (n : Nat) (wi : Int) (F W : Nat -> Int) (i : Nat) : Bool := (W i % zbp wi W (F i) == 0) && down F n i
def zdh (s le la wi ke qu : Int) (n : Nat) (F W K : Nat -> Int) : Bool :=
 inB s 1 4 && inB le 1 100 && inB la 0 100 && inB wi 1 50 && inB ke 0 1000 && inB qu 1 400 && inB n 1 4 && allB n (tierB n F W K) && allB n (fitB n wi F W)
end Go.Proofs.YtpbimdkclnekeaaGreat
