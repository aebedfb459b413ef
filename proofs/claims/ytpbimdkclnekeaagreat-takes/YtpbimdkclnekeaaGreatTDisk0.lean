import Derived.WalkKit

namespace Go.Proofs.YtpbimdkclnekeaaGreat
open Value (int)
open IntKind (i64)
structure FS where
 name : ByteArray
 data : ByteArray
 safe : Nat
structure DS where
 files : List FS
 left : Int
 down : Bool
def zbn : List FS -> List Value
 | [] => []
 | f :: r => .string f.name :: .string f.data :: int i64 f.safe :: zbn r
theorem fileCells_append : ∀ (l r : List FS), zbn (l ++ r) = zbn l ++ zbn r
 | [], _ => rfl
 | f :: l, r => by simp [zbn, fileCells_append l r]
theorem fileCells_0 : ∀ (l : List FS) (i : Nat) (f : FS), l[i]? = some f -> (zbn l)[i * 3]? = some (.string f.name)
 | [], i, f, h => by simp at h
 | g :: r, 0, f, h => by simp at h; subst h; rfl
 | g :: r, i + 1, f, h => by
  have := fileCells_0 r i f (by simpa using h)
  rw [show (i + 1) * 3 = i * 3 + 1 + 1 + 1 by omega]; simpa [zbn] using this
theorem fileCells_1 : ∀ (l : List FS) (i : Nat) (f : FS), l[i]? = some f -> (zbn l)[i * 3 + 1]? = some (.string f.data)
 | [], i, f, h => by simp at h
 | g :: r, 0, f, h => by simp at h; subst h; rfl
 | g :: r, i + 1, f, h => by
  have := fileCells_1 r i f (by simpa using h)
  rw [show (i + 1) * 3 + 1 = i * 3 + 1 + 1 + 1 + 1 by omega]; simpa [zbn] using this
theorem fileCells_2 : ∀ (l : List FS) (i : Nat) (f : FS), l[i]? = some f -> (zbn l)[i * 3 + 2]? = some (int i64 f.safe)
 | [], i, f, h => by simp at h
 | g :: r, 0, f, h => by simp at h; subst h; rfl
 | g :: r, i + 1, f, h => by
  have := fileCells_2 r i f (by simpa using h)
  rw [show (i + 1) * 3 + 2 = i * 3 + 2 + 1 + 1 + 1 by omega]; simpa [zbn] using this
theorem fileCells_set1 : ∀ (l : List FS) (i : Nat) (f : FS) (d : ByteArray), l[i]? = some f -> zbn (l.set i { f with data := d }) = (zbn l).set (i * 3 + 1) (.string d)
 | [], i, f, d, h => by simp at h
 | g :: r, 0, f, d, h => by simp at h; subst h; simp [zbn]
 | g :: r, i + 1, f, d, h => by
  have := fileCells_set1 r i f d (by simpa using h)
  rw [show (i + 1) * 3 + 1 = i * 3 + 1 + 1 + 1 + 1 by omega]; simp [zbn, this]
theorem fileCells_set2 : ∀ (l : List FS) (i : Nat) (f : FS) (d : Nat), l[i]? = some f -> zbn (l.set i { f with safe := d }) = (zbn l).set (i * 3 + 2) (int i64 d)
 | [], i, f, d, h => by simp at h
 | g :: r, 0, f, d, h => by simp at h; subst h; simp [zbn]
 | g :: r, i + 1, f, d, h => by
  have := fileCells_set2 r i f d (by simpa using h)
  rw [show (i + 1) * 3 + 2 = i * 3 + 2 + 1 + 1 + 1 by omega]; simp [zbn, this]
def eqS (a b : ByteArray) : Bool := a.toList == b.toList
def zeh (name : ByteArray) : Nat -> List FS -> Option Nat
 | _, [] => none
 | k, f :: r => if eqS f.name name then some k else zeh name (k + 1) r
def place (l : List FS) (name : ByteArray) : Option Nat := zeh name 0 l
def placeI (l : List FS) (name : ByteArray) : Int := match place l name with | some i => i | none => -1
theorem placeFrom_none (name : ByteArray) : ∀ (k : Nat) (l : List FS), (∀ f ∈ l, (eqS f.name name) = false) -> zeh name k l = none
 | _, [], _ => rfl
 | k, f :: r, h => by
  rw [zeh, h f (by simp)]
  simpa using placeFrom_none name (k + 1) r (fun g hg => h g (by simp [hg]))
theorem placeFrom_some (name : ByteArray) : ∀ (k : Nat) (l : List FS) (i : Nat) (f : FS), l[i]? = some f -> (eqS f.name name) = true -> (∀ j g, j < i -> l[j]? = some g -> (eqS g.name name) = false) -> zeh name k l = some (k + i)
 | _, [], i, f, h, _, _ => by simp at h
 | k, g :: r, 0, f, h, he, _ => by simp at h; subst h; rw [zeh, he]; rfl
 | k, g :: r, i + 1, f, h, he, hn => by
  rw [zeh, hn 0 g (by omega) rfl]
  have := placeFrom_some name (k + 1) r i f (by simpa using h) he (fun j g' hj hg => hn (j + 1) g' (by omega) (by simpa using hg))
  simp only [Bool.false_eq_true, if_false]
  rw [this]; congr 1; omega
theorem placeI_none {l : List FS} {name : ByteArray} (h : ∀ j f, j < l.length -> l[j]? = some f -> (eqS f.name name) = false) : place l name = none /\ placeI l name = -1 := by
 have : place l name = none := placeFrom_none name 0 l (fun f hf => by
  obtain ⟨j, hj⟩ := List.getElem?_of_mem hf
  exact h j f (List.getElem?_eq_some_iff.1 hj).1 hj)
 exact ⟨this, by simp [placeI, this]⟩
theorem placeI_some {l : List FS} {name : ByteArray} {i : Nat} {f : FS} (h : l[i]? = some f) (he : (eqS f.name name) = true) (hn : ∀ j g, j < i -> l[j]? = some g -> (eqS g.name name) = false) : place l name = some i /\ placeI l name = i := by
 have : place l name = some i := by have := placeFrom_some name 0 l i f h he hn; simpa [place] using this
 exact ⟨this, by simp [placeI, this]⟩
theorem placeFrom_lt (name : ByteArray) : ∀ (k : Nat) (l : List FS) (i : Nat), zeh name k l = some i -> k <= i /\ ∃ f, l[i - k]? = some f /\ (eqS f.name name) = true
 | _, [], i, h => by cases h
 | k, f :: r, i, h => by
  rw [zeh] at h
  by_cases e : (eqS f.name name) = true
  ·rw [if_pos e] at h; cases h; exact ⟨Nat.le_refl _, f, by simp, e⟩
  ·rw [if_neg e] at h
   obtain ⟨h1, g, h2, h3⟩ := placeFrom_lt name (k + 1) r i h
   refine ⟨by omega, g, ?_, h3⟩
   rw [show i - k = (i - (k + 1)) + 1 by omega]; simpa using h2
theorem place_some {l : List FS} {name : ByteArray} {i : Nat} (h : place l name = some i) : ∃ f, l[i]? = some f /\ i < l.length /\ (eqS f.name name) = true := by
 obtain ⟨_, f, h2, h3⟩ := placeFrom_lt name 0 l i h
 exact ⟨f, h2, (List.getElem?_eq_some_iff.1 h2).1, h3⟩
theorem get_of_lt {l : List FS} {k : Nat} (h : k < l.length) : ∃ f, l[k]? = some f := ⟨_, List.getElem?_eq_getElem h⟩
def zas (S : DS) : Bool := S.down || S.left == 0
def zav (S : DS) : DS := if zas S then { S with down := true } else { S with left := if 0 < S.left then S.left - 1 else S.left }
def appended (S : DS) (name data : ByteArray) : DS :=
 match place S.files name with
 | some i => { S with files := match S.files[i]? with | some f => S.files.set i { f with data := f.data ++ data } | none => S.files }
 | none => { S with files := S.files ++ [⟨name, data, 0⟩] }
def synced (S : DS) (name : ByteArray) : DS :=
 match place S.files name with
 | some i => { S with files := match S.files[i]? with | some f => S.files.set i { f with safe := f.data.size } | none => S.files }
 | none => S
def stopAt (S : DS) (n : Int) : DS := if zas S then S else { S with left := if n < 0 then -1 else n }
def leftOf (keep : Int) (f : FS) : FS :=
 let n := if keep < (f.data.size : Int) - f.safe then (if keep < 0 then 0 else keep.toNat) else f.data.size - f.safe
 ⟨f.name, f.data.extract 0 (f.safe + n), (f.data.extract 0 (f.safe + n)).size⟩
def DOk (S : DS) (N : Nat) : Prop := -1 <= S.left /\ S.left <= 9223372036854775807 /\ S.files.length <= N /\ ∀ f ∈ S.files, f.safe <= f.data.size /\ f.data.size <= N
end Go.Proofs.YtpbimdkclnekeaaGreat
