import Derived.Test.YtpbimdkclnekeaaGreatTCnt0
import Derived.Test.YtpbimdkclnekeaaGreatTJn1
import Derived.Test.YtpbimdkclnekeaaGreatTBrd1
import Derived.Test.YtpbimdkclnekeaaGreatTRefE
import Derived.Test.YtpbimdkclnekeaaGreatTWhr0

namespace Go.Proofs.YtpbimdkclnekeaaGreat
open Go.RowKit Go.Maps Go.Shelf
open Go.ChangeMaps (setBlock)
set_option linter.unusedVariables false
def standT (L : LV) (f ser a : Int) (j : Nat) : List Cl := (List.range j).filterMap (fun i : Nat => (getL L ⟨f, ser, a + i⟩).map (·.cl))
theorem standT_succ (L : LV) (f ser a : Int) (j : Nat) : standT L f ser a (j + 1) = standT L f ser a j ++ (match getL L ⟨f, ser, a + j⟩ with | some v => [v.cl] | none => []) := by
 unfold standT
 rw [List.range_succ, List.filterMap_append]
 congr 1
 cases h : getL L ⟨f, ser, a + j⟩ <;> simp [h]
def standL (c : Cf) (L : LV) (ser win : Int) (k : Nat) : List Cl := standT L (c.F k) ser (win * manyOf c k) (manyOf c k).toNat
end Go.Proofs.YtpbimdkclnekeaaGreat

namespace Go.Proofs.YtpbimdkclnekeaaGreat
open Go.RowKit Go.Maps Go.Shelf
set_option linter.unusedVariables false
def zff (P : Nm -> Prop) [DecidablePred P] : List Nm -> Int
 | [] => 0
 | x :: r => (if P x then 1 else 0) + zff P r
def sumP (P : Nm -> Prop) [DecidablePred P] : List Nm -> Int
 | [] => 0
 | x :: r => (if P x then x.val else 0) + sumP P r
structure IsC (P : Nm -> Prop) [DecidablePred P] (ns : List Nm) (a : Cl) : Prop where
 cnt : a.cnt = zff P ns
 sum : a.sum = wrap64 (sumP P ns)
 none : zff P ns = 0 -> a.mn = 0 /\ a.mx = 0
 mn : zff P ns ≠ 0 -> (∃ x ∈ ns, P x /\ x.val = a.mn) /\ ∀ x ∈ ns, P x -> a.mn <= x.val
 mx : zff P ns ≠ 0 -> (∃ x ∈ ns, P x /\ x.val = a.mx) /\ ∀ x ∈ ns, P x -> x.val <= a.mx
section
variable {P Q : Nm -> Prop} [DecidablePred P] [DecidablePred Q] {ns : List Nm}
theorem cntP_nonneg : ∀ ns : List Nm, 0 <= zff P ns /\ zff P ns <= ns.length
 | [] => by simp [zff]
 | x :: r => by
  have := cntP_nonneg r
  simp only [zff, List.length_cons]
  split <;> omega
theorem zdt : ∀ {ns : List Nm}, zff P ns = 0 ↔ ∀ x ∈ ns, ¬ P x
 | [] => by simp [zff]
 | x :: r => by
  have h1 := cntP_nonneg (P := P) r
  have h2 := zdt (ns := r)
  simp only [zff, List.mem_cons, forall_eq_or_imp]
  constructor
  ·intro h
   by_cases hx : P x
   ·rw [if_pos hx] at h; omega
   ·rw [if_neg hx] at h; exact ⟨hx, h2.1 (by omega)⟩
  ·rintro ⟨h3, h4⟩
   rw [if_neg h3, h2.2 h4]; rfl
theorem sumP_zero : ∀ {ns : List Nm}, (∀ x ∈ ns, ¬ P x) -> sumP P ns = 0
 | [], _ => by simp [sumP]
 | x :: r, h => by
  have h2 := sumP_zero (ns := r) (fun y hy => h y (by simp [hy]))
  simp only [sumP]
  rw [if_neg (h x (by simp)), h2]; rfl
theorem cntP_congr : ∀ {ns : List Nm}, (∀ x ∈ ns, P x ↔ Q x) -> zff P ns = zff Q ns /\ sumP P ns = sumP Q ns
 | [], _ => by simp [zff, sumP]
 | x :: r, h => by
  have h2 := cntP_congr (ns := r) (fun y hy => h y (by simp [hy]))
  have h3 := h x (by simp)
  simp only [zff, sumP, h3, h2.1, h2.2, and_self]
theorem cntP_or {R : Nm -> Prop} [DecidablePred R] : ∀ {ns : List Nm}, (∀ x ∈ ns, R x ↔ P x \/ Q x) -> (∀ x ∈ ns, ¬ (P x /\ Q x)) -> zff R ns = zff P ns + zff Q ns /\ sumP R ns = sumP P ns + sumP Q ns
 | [], _, _ => by simp [zff, sumP]
 | x :: r, h, hn => by
  have h2 := cntP_or (ns := r) (fun y hy => h y (by simp [hy])) (fun y hy => hn y (by simp [hy]))
  have h3 := h x (by simp)
  have h4 := hn x (by simp)
  simp only [zff, sumP, h2.1, h2.2]
  by_cases p : P x
  ·have q : ¬ Q x := fun q => h4 ⟨p, q⟩
   simp only [h3, p, q, true_or, if_true, if_false]; constructor <;> omega
  ·by_cases q : Q x
   ·simp only [h3, p, q, or_true, if_true, if_false]; constructor <;> omega
   ·simp only [h3, p, q, or_self, if_false]; constructor <;> omega
theorem IsC.congr {a : Cl} (h : IsC P ns a) (hp : ∀ x ∈ ns, P x ↔ Q x) : IsC Q ns a := by
 obtain ⟨e1, e2⟩ := cntP_congr hp
 refine ⟨by rw [h.cnt, e1], by rw [h.sum, e2], fun h0 => h.none (by rw [e1]; exact h0), fun h0 => ?_, fun h0 => ?_⟩
 ·obtain ⟨⟨x, hx, px, ex⟩, h2⟩ := h.mn (by rw [e1]; exact h0)
  exact ⟨⟨x, hx, (hp x hx).1 px, ex⟩, fun y hy qy => h2 y hy ((hp y hy).2 qy)⟩
 ·obtain ⟨⟨x, hx, px, ex⟩, h2⟩ := h.mx (by rw [e1]; exact h0)
  exact ⟨⟨x, hx, (hp x hx).1 px, ex⟩, fun y hy qy => h2 y hy ((hp y hy).2 qy)⟩
theorem IsC.one {a b : Cl} (h : IsC P ns a) (k : IsC P ns b) : a = b := by
 obtain ⟨a1, a2, a3, a4⟩ := a
 obtain ⟨b1, b2, b3, b4⟩ := b
 have e1 := h.cnt.trans k.cnt.symm
 have e2 := h.sum.trans k.sum.symm
 simp only at e1 e2
 subst e1 e2
 by_cases h0 : zff P ns = 0
 ·obtain ⟨x1, x2⟩ := h.none h0
  obtain ⟨y1, y2⟩ := k.none h0
  simp only at x1 x2 y1 y2
  subst x1 x2 y1 y2; rfl
 ·obtain ⟨⟨x, hx, px, ex⟩, x2⟩ := h.mn h0
  obtain ⟨⟨y, hy, py, ey⟩, y2⟩ := k.mn h0
  obtain ⟨⟨z, hz, pz, ez⟩, z2⟩ := h.mx h0
  obtain ⟨⟨u, hu, pu, eu⟩, u2⟩ := k.mx h0
  simp only at ex ey ez eu x2 y2 z2 u2
  have := x2 y hy py; have := y2 x hx px; have := z2 u hu pu; have := u2 z hz pz
  have e3 : a3 = b3 := by omega
  have e4 : a4 = b4 := by omega
  subst e3 e4; rfl
theorem IsC.zero (h : ∀ x ∈ ns, ¬ P x) : IsC P ns zds := by
 have h1 := zdt.2 h
 have h2 := sumP_zero h
 exact ⟨by rw [h1]; rfl, by rw [h2]; show (0 : Int) = wrap64 0; unfold wrap64; omega, fun _ => ⟨rfl, rfl⟩, fun h0 => absurd h1 h0, fun h0 => absurd h1 h0⟩
theorem cntP_snoc (x : Nm) : ∀ ns : List Nm, zff P (ns ++ [x]) = zff P ns + (if P x then 1 else 0) /\ sumP P (ns ++ [x]) = sumP P ns + (if P x then x.val else 0)
 | [] => by simp [zff, sumP]
 | y :: r => by
  have h := cntP_snoc x r
  simp only [List.cons_append, zff, sumP, h.1, h.2]
  constructor <;> omega
theorem IsC.skip {a : Cl} {x : Nm} (h : IsC P ns a) (hx : ¬ P x) : IsC P (ns ++ [x]) a := by
 obtain ⟨e1, e2⟩ := cntP_snoc (P := P) x ns
 rw [if_neg hx, Int.add_zero] at e1 e2
 refine ⟨by rw [h.cnt, e1], by rw [h.sum, e2], fun h0 => h.none (by rw [<- e1]; exact h0), fun h0 => ?_, fun h0 => ?_⟩
 ·obtain ⟨⟨y, hy, py, ey⟩, y2⟩ := h.mn (by rw [<- e1]; exact h0)
  refine ⟨⟨y, by simp [hy], py, ey⟩, fun z hz pz => ?_⟩
  rcases List.mem_append.1 hz with hz | hz
  ·exact y2 z hz pz
  ·rw [List.mem_singleton] at hz; subst hz; exact absurd pz hx
 ·obtain ⟨⟨y, hy, py, ey⟩, y2⟩ := h.mx (by rw [<- e1]; exact h0)
  refine ⟨⟨y, by simp [hy], py, ey⟩, fun z hz pz => ?_⟩
  rcases List.mem_append.1 hz with hz | hz
  ·exact y2 z hz pz
  ·rw [List.mem_singleton] at hz; subst hz; exact absurd pz hx
def addW (a : Cl) (v : Int) : Cl := ⟨a.cnt + 1, wrap64 (a.sum + v), if a.cnt = 0 \/ v < a.mn then v else a.mn, if a.cnt = 0 \/ a.mx < v then v else a.mx⟩
theorem IsC.add {a : Cl} {x : Nm} (h : IsC P ns a) (hx : P x) : IsC P (ns ++ [x]) (addW a x.val) := by
 obtain ⟨e1, e2⟩ := cntP_snoc (P := P) x ns
 rw [if_pos hx] at e1 e2
 have hn := cntP_nonneg (P := P) ns
 have hc := h.cnt
 refine ⟨by show a.cnt + 1 = _; omega, by show wrap64 (a.sum + x.val) = _; rw [h.sum, wrap_in, e2], fun h0 => by omega, fun h0 => ?_, fun h0 => ?_⟩
 ·by_cases hz : zff P ns = 0
  ·have hnp := zdt.1 hz
   refine ⟨⟨x, by simp, hx, ?_⟩, fun z hzm pz => ?_⟩
   ·show x.val = if a.cnt = 0 \/ x.val < a.mn then x.val else a.mn
    rw [if_pos (.inl (by omega))]
   ·show (if a.cnt = 0 \/ x.val < a.mn then x.val else a.mn) <= z.val
    rw [if_pos (.inl (by omega))]
    rcases List.mem_append.1 hzm with hzm | hzm
    ·exact absurd pz (hnp z hzm)
    ·rw [List.mem_singleton] at hzm; subst hzm; omega
  ·obtain ⟨⟨y, hy, py, ey⟩, y2⟩ := h.mn hz
   have hz' : ¬ a.cnt = 0 := by omega
   show (∃ z ∈ ns ++ [x], P z /\ z.val = (if a.cnt = 0 \/ x.val < a.mn then x.val else a.mn)) /\ ∀ z ∈ ns ++ [x], P z -> (if a.cnt = 0 \/ x.val < a.mn then x.val else a.mn) <= z.val
   by_cases hl : x.val < a.mn
   ·rw [if_pos (.inr hl)]
    refine ⟨⟨x, by simp, hx, rfl⟩, fun z hzm pz => ?_⟩
    rcases List.mem_append.1 hzm with hzm | hzm
    ·have := y2 z hzm pz; omega
    ·rw [List.mem_singleton] at hzm; subst hzm; omega
   ·rw [if_neg (by omega)]
    refine ⟨⟨y, by simp [hy], py, ey⟩, fun z hzm pz => ?_⟩
    rcases List.mem_append.1 hzm with hzm | hzm
    ·exact y2 z hzm pz
    ·rw [List.mem_singleton] at hzm; subst hzm; omega
 ·by_cases hz : zff P ns = 0
  ·have hnp := zdt.1 hz
   refine ⟨⟨x, by simp, hx, ?_⟩, fun z hzm pz => ?_⟩
   ·show x.val = if a.cnt = 0 \/ a.mx < x.val then x.val else a.mx
    rw [if_pos (.inl (by omega))]
   ·show z.val <= (if a.cnt = 0 \/ a.mx < x.val then x.val else a.mx)
    rw [if_pos (.inl (by omega))]
    rcases List.mem_append.1 hzm with hzm | hzm
    ·exact absurd pz (hnp z hzm)
    ·rw [List.mem_singleton] at hzm; subst hzm; omega
  ·obtain ⟨⟨y, hy, py, ey⟩, y2⟩ := h.mx hz
   have hz' : ¬ a.cnt = 0 := by omega
   show (∃ z ∈ ns ++ [x], P z /\ z.val = (if a.cnt = 0 \/ a.mx < x.val then x.val else a.mx)) /\ ∀ z ∈ ns ++ [x], P z -> z.val <= (if a.cnt = 0 \/ a.mx < x.val then x.val else a.mx)
   by_cases hl : a.mx < x.val
   ·rw [if_pos (.inr hl)]
    refine ⟨⟨x, by simp, hx, rfl⟩, fun z hzm pz => ?_⟩
    rcases List.mem_append.1 hzm with hzm | hzm
    ·have := y2 z hzm pz; omega
    ·rw [List.mem_singleton] at hzm; subst hzm; omega
   ·rw [if_neg (by omega)]
    refine ⟨⟨y, by simp [hy], py, ey⟩, fun z hzm pz => ?_⟩
    rcases List.mem_append.1 hzm with hzm | hzm
    ·exact y2 z hzm pz
    ·rw [List.mem_singleton] at hzm; subst hzm; omega
end
theorem IsC.join {P Q R : Nm -> Prop} [DecidablePred P] [DecidablePred Q] [DecidablePred R] {ns : List Nm} {zs : List Cl} {z : Cl} (h : IsC P ns (zdn zs)) (hz : zs = [] ↔ zff P ns = 0) (k : IsC Q ns z) (hq : zff Q ns ≠ 0) (hr : ∀ x ∈ ns, R x ↔ P x \/ Q x) (hn : ∀ x ∈ ns, ¬ (P x /\ Q x)) (hl : (ns.length : Int) < 9223372036854775808) :
  IsC R ns (zdn (zs ++ [z])) /\ zff R ns ≠ 0 := by
 obtain ⟨e1, e2⟩ := cntP_or hr hn
 have b1 := cntP_nonneg (P := P) ns
 have b2 := cntP_nonneg (P := Q) ns
 have b3 := cntP_nonneg (P := R) ns
 have hR : zff R ns ≠ 0 := by omega
 have c1 := h.cnt
 have c2 := h.sum
 have jc : (zdn (zs ++ [z])).cnt = wrap64 ((zdn zs).cnt + z.cnt) := by simp only [zdn, List.map_append, List.map_cons, List.map_nil, wsum_snoc]
 have js : (zdn (zs ++ [z])).sum = wrap64 ((zdn zs).sum + z.sum) := by simp only [zdn, List.map_append, List.map_cons, List.map_nil, wsum_snoc]
 have k1 := k.cnt
 have k2 := k.sum
 obtain ⟨⟨q1, hq1, pq1, eq1⟩, q2⟩ := k.mn hq
 obtain ⟨⟨r1, hr1, pr1, er1⟩, r2⟩ := k.mx hq
 have hmn : (∃ x ∈ ns, R x /\ x.val = (zdn (zs ++ [z])).mn) /\ ∀ x ∈ ns, R x -> (zdn (zs ++ [z])).mn <= x.val := by
  simp only [zdn, foldF_snoc]
  cases hf : zfd ord1 zs with
  | none =>
   have hzs : zs = [] := by
    rcases List.eq_nil_or_concat zs with h | ⟨l, x, rfl⟩
    ·exact h
    ·rw [List.concat_eq_append, foldF_snoc] at hf; unfold stepF at hf; split at hf <;> (try split at hf) <;> cases hf
   have hp0 := zdt.1 (hz.1 hzs)
   simp only [stepF, Option.getD_some]
   exact ⟨⟨q1, hq1, (hr q1 hq1).2 (.inr pq1), eq1⟩, fun x hx rx => ((hr x hx).1 rx).elim (fun px => absurd px (hp0 x hx)) (q2 x hx)⟩
  | some g =>
   have hzs : zs ≠ [] := fun e => by rw [e] at hf; cases hf
   have hp0 : zff P ns ≠ 0 := fun e => hzs (hz.2 e)
   obtain ⟨⟨p1, hp1, pp1, ep1⟩, p2⟩ := h.mn hp0
   simp only [zdn, hf, Option.getD_some] at ep1 p2
   simp only [stepF, ord1, cmpI]
   by_cases hlt : z.mn < g.mn
   ·simp only [hlt, if_true, show (-1 : Int) < 0 by omega, Option.getD_some]
    refine ⟨⟨q1, hq1, (hr q1 hq1).2 (.inr pq1), eq1⟩, fun x hx rx => ((hr x hx).1 rx).elim (fun px => ?_) (q2 x hx)⟩
    have := p2 x hx px; omega
   ·have : ¬ (if z.mn < g.mn then (-1 : Int) else if g.mn < z.mn then 1 else 0) < 0 := by rw [if_neg hlt]; split <;> omega
    simp only [this, if_false, Option.getD_some]
    refine ⟨⟨p1, hp1, (hr p1 hp1).2 (.inl pp1), ep1⟩, fun x hx rx => ((hr x hx).1 rx).elim (p2 x hx) (fun qx => ?_)⟩
    have := q2 x hx qx; omega
 have hmx : (∃ x ∈ ns, R x /\ x.val = (zdn (zs ++ [z])).mx) /\ ∀ x ∈ ns, R x -> x.val <= (zdn (zs ++ [z])).mx := by
  simp only [zdn, foldF_snoc]
  cases hf : zfd ord2 zs with
  | none =>
   have hzs : zs = [] := by
    rcases List.eq_nil_or_concat zs with h | ⟨l, x, rfl⟩
    ·exact h
    ·rw [List.concat_eq_append, foldF_snoc] at hf; unfold stepF at hf; split at hf <;> (try split at hf) <;> cases hf
   have hp0 := zdt.1 (hz.1 hzs)
   simp only [stepF, Option.getD_some]
   exact ⟨⟨r1, hr1, (hr r1 hr1).2 (.inr pr1), er1⟩, fun x hx rx => ((hr x hx).1 rx).elim (fun px => absurd px (hp0 x hx)) (r2 x hx)⟩
  | some g =>
   have hzs : zs ≠ [] := fun e => by rw [e] at hf; cases hf
   have hp0 : zff P ns ≠ 0 := fun e => hzs (hz.2 e)
   obtain ⟨⟨p1, hp1, pp1, ep1⟩, p2⟩ := h.mx hp0
   simp only [zdn, hf, Option.getD_some] at ep1 p2
   simp only [stepF, ord2, cmpI]
   by_cases hlt : g.mx < z.mx
   ·simp only [hlt, if_true, show (-1 : Int) < 0 by omega, Option.getD_some]
    refine ⟨⟨r1, hr1, (hr r1 hr1).2 (.inr pr1), er1⟩, fun x hx rx => ((hr x hx).1 rx).elim (fun px => ?_) (r2 x hx)⟩
    have := p2 x hx px; omega
   ·have : ¬ (if g.mx < z.mx then (-1 : Int) else if z.mx < g.mx then 1 else 0) < 0 := by rw [if_neg hlt]; split <;> omega
    simp only [this, if_false, Option.getD_some]
    refine ⟨⟨p1, hp1, (hr p1 hp1).2 (.inl pp1), ep1⟩, fun x hx rx => ((hr x hx).1 rx).elim (p2 x hx) (fun qx => ?_)⟩
    have := r2 x hx qx; omega
 refine ⟨⟨?_, ?_, fun h0 => absurd h0 hR, fun _ => hmn, fun _ => hmx⟩, hR⟩
 ·rw [jc, c1, k1, <- e1]; unfold wrap64; omega
 ·rw [js, c2, k2, e2]; unfold wrap64; omega
theorem stand_isC {L : LV} {wd f ser a : Int} {ns : List Nm} (hl : (ns.length : Int) < 9223372036854775808) : ∀ j : Nat,
  (∀ i : Nat, i < j -> (∀ v, getL L ⟨f, ser, a + i⟩ = some v -> IsC (fun x : Nm => x.ser = ser /\ x.tm / wd = a + i) ns v.cl /\ zff (fun x : Nm => x.ser = ser /\ x.tm / wd = a + i) ns ≠ 0) /\ (getL L ⟨f, ser, a + i⟩ = none -> ∀ x ∈ ns, ¬ (x.ser = ser /\ x.tm / wd = a + i))) ->
  IsC (fun x : Nm => x.ser = ser /\ a <= x.tm / wd /\ x.tm / wd < a + j) ns (zdn (standT L f ser a j)) /\ (standT L f ser a j = [] ↔ zff (fun x : Nm => x.ser = ser /\ a <= x.tm / wd /\ x.tm / wd < a + j) ns = 0)
 | 0, _ => by
  have h0 : ∀ x ∈ ns, ¬ (x.ser = ser /\ a <= x.tm / wd /\ x.tm / wd < a + (0 : Nat)) := fun x _ ⟨_, h1, h2⟩ => by
   have : ((0 : Nat) : Int) = 0 := rfl
   omega
  exact ⟨IsC.zero h0, by simp only [standT, List.range_zero, List.filterMap_nil, true_iff]; exact zdt.2 h0⟩
 | j + 1, h => by
  obtain ⟨k1, k2⟩ := stand_isC hl j (fun i hi => h i (by omega))
  obtain ⟨e1, e2⟩ := h j (by omega)
  have hcast : ((j + 1 : Nat) : Int) = (j : Int) + 1 := by omega
  rw [standT_succ]
  cases hg : getL L ⟨f, ser, a + j⟩ with
  | none =>
   have hno := e2 hg
   have hc : ∀ x ∈ ns, (x.ser = ser /\ a <= x.tm / wd /\ x.tm / wd < a + j) ↔ (x.ser = ser /\ a <= x.tm / wd /\ x.tm / wd < a + (j + 1 : Nat)) := fun x hx => by
    have := hno x hx
    constructor
    ·rintro ⟨h1, h2, h3⟩; exact ⟨h1, h2, by omega⟩
    ·rintro ⟨h1, h2, h3⟩
     refine ⟨h1, h2, ?_⟩
     have : x.tm / wd ≠ a + j := fun e => this ⟨h1, e⟩
     omega
   simp only [List.append_nil]
   exact ⟨k1.congr hc, by rw [k2, (cntP_congr hc).1]⟩
  | some v =>
   obtain ⟨v1, v2⟩ := e1 v hg
   obtain ⟨r1, r2⟩ := IsC.join (R := fun x : Nm => x.ser = ser /\ a <= x.tm / wd /\ x.tm / wd < a + (j + 1 : Nat)) k1 k2 v1 v2 (fun x hx => by
    constructor
    ·rintro ⟨h1, h2, h3⟩
     by_cases he : x.tm / wd = a + j
     ·exact .inr ⟨h1, he⟩
     ·exact .inl ⟨h1, h2, by omega⟩
    ·rintro (⟨h1, h2, h3⟩ | ⟨h1, h2⟩)
     ·exact ⟨h1, h2, by omega⟩
     ·exact ⟨h1, by omega, by omega⟩) (fun x hx ⟨⟨_, _, h1⟩, _, h2⟩ => by omega) hl
   exact ⟨r1, by simp only [List.append_eq_nil_iff, List.cons_ne_nil, and_false, false_iff]; exact r2⟩
end Go.Proofs.YtpbimdkclnekeaaGreat

namespace Go.Proofs.YtpbimdkclnekeaaGreat
open Go.RowKit Go.Maps Go.Shelf
open Go.ChangeMaps (setBlock)
set_option linter.unusedVariables false
theorem zda.putGone {w w' : World} {s : Nat} {c : Cf} {tv : Value} {lb gb : Nat} {Gl Gl' : List (Sg × Unit)} {L : LV} (h : zda w s c tv lb gb Gl L) (hm : zce goneM w' gb Gl') (hk : zan (fun k => k = gb) w w') : zda w' s c tv lb gb Gl' L := by
 have ne_cells : ∀ {k : Nat} {cs : Array Value} {t : TypeId} {fr : Nat × Nat}, w.heap[k]? = some (.cells cs t fr) -> ¬ k = gb := fun hk e => by
  obtain ⟨es, cl, hb, _⟩ := h.gone; rw [e, hb] at hk; cases hk
 refine ⟨hk.heap h.head (ne_cells h.head), zae h.trow hk (fun k hk => ?_), h.live.kept hk (fun e => h.apart e.symm), hm, h.apart⟩
 obtain ⟨cur, hcur⟩ := zbp h.trow hk
 exact ne_cells hcur
end Go.Proofs.YtpbimdkclnekeaaGreat

namespace Go.Proofs.YtpbimdkclnekeaaGreat
open Value (int)
open IntKind (i64)
open Go.RowKit Go.Maps Go.Shelf
open Go.ChangeMaps (setBlock)
set_option linter.unusedVariables false
def restN (k : Nat) : Nat := 2 ^ min k 5
theorem restN_bound (k : Nat) : 1 <= restN k /\ restN k <= 32 := by
 unfold restN
 have h : min k 5 <= 5 := Nat.min_le_right _ _
 generalize min k 5 = j at *
 match j, h with
 | 0, _ => simp
 | 1, _ => simp
 | 2, _ => simp
 | 3, _ => simp
 | 4, _ => simp
 | 5, _ => simp
theorem pow_lt {k : Nat} (h : k <= 5) : ((2 : Int) ^ k < 32 ↔ k < 5) := by
 match k, h with
 | 0, _ => simp
 | 1, _ => simp
 | 2, _ => simp
 | 3, _ => simp
 | 4, _ => simp
 | 5, _ => simp
theorem pow_bd {k : Nat} (h : k <= 5) : 1 <= (2 : Int) ^ k /\ (2 : Int) ^ k <= 32 := by
 match k, h with
 | 0, _ => simp
 | 1, _ => simp
 | 2, _ => simp
 | 3, _ => simp
 | 4, _ => simp
 | 5, _ => simp
set_option maxHeartbeats 1000000 in
theorem rest_any (tries : Nat) (ht : tries <= 1000000000000) (w : World) :
  Calls Tryz.prog 97 #[int i64 tries] w fun e w' => e = .returned (int i64 (restN tries)) /\ w' = w := by
 go_enter Tryz.func97, Tryz.ntmps97
 go_wp2_with fail
 go_loopw [3, 4] (fun x y wr => ∃ (k : Nat), k <= 5 /\ k <= tries /\ x = int i64 ((2 : Int) ^ k) /\ y = int i64 k /\ wr = w) (fun _ y _ => 5 - (intOf y).toNat)
 case atStart => exact ⟨0, by omega, Nat.zero_le _, by simp, rfl, rfl⟩
 case round =>
  obtain ⟨k, hk5, hkt, rfl, rfl, rfl⟩ := hrel
  obtain ⟨p1, p2⟩ := pow_bd hk5
  by_cases h1 : k < tries
  ·have h1' : (k : Int) < tries := by omega
   by_cases h2 : k < 5
   ·have h2' : (2 : Int) ^ k < 32 := (pow_lt hk5).2 h2
    have HP : Hid ((2 : Int) ^ k * 2 = 2 ^ (k + 1)) := by show (2 : Int) ^ k * 2 = 2 ^ (k + 1); rw [Int.pow_succ]
    obtain ⟨v, hv⟩ : ∃ v, (2 : Int) ^ k = v := ⟨_, rfl⟩
    rw [hv] at HP h2' p1 p2 ⊢
    clear hv
    go_wp2_with fail
    go_roundw
    case rel => exact ⟨k + 1, by omega, by omega, by rw [<- ud HP], by go_num, trivial⟩
    case measure => simp [intOf]; omega
   ·obtain rfl : k = 5 := by omega
    go_wp2_with fail
    go_ret
    refine ⟨?_, rfl⟩
    unfold restN
    rw [show min tries 5 = 5 by omega]
    rfl
  ·obtain rfl : k = tries := by omega
   go_wp2_with fail
   go_ret
   refine ⟨?_, rfl⟩
   unfold restN
   rw [show min k 5 = k by omega]
   simp
theorem fld_lse (x : Lse) (W : World) : (Instr.field 149 (.agg #[int i64 x.kd, int i64 x.s.t, int i64 x.s.ser, int i64 x.s.win, int i64 x.slot, int i64 x.til]) 0).run Tryz.prog W = .ok (.agg #[int i64 x.kd, int i64 x.s.t, int i64 x.s.ser, int i64 x.s.win]) W := by kernel_rfl
theorem look_lse {X : World} {qb : Nat} {QL : List (Tok × Lse)} (h : zce zfh X qb QL) {t : Tok} (ht : t.wf) {g : Lse} (hg : zbm QL t = some g) : (Instr.lookup 153 (.map (some qb)) (.agg #[int i64 t.ep, int i64 t.num]) false).run Tryz.prog X = .ok (.agg #[int i64 g.kd, int i64 g.s.t, int i64 g.s.ser, int i64 g.s.win, int i64 g.slot, int i64 g.til]) X := by
 have h1 := run_lookM leases_ok false h ht
 rw [hg] at h1; exact h1
theorem look_tsk {X : World} {tb : Nat} {TL : List (Jk × Tsk)} (h : zce tasksM X tb TL) {k : Jk} (hk : k.wf) {x : Tsk} (hx : zbm TL k = some x) : (Instr.lookup 154 (.map (some tb)) (.agg #[int i64 k.kd, int i64 k.s.t, int i64 k.s.ser, int i64 k.s.win]) false).run Tryz.prog X = .ok (.agg #[.iface x.jt (.agg #[int i64 x.s.t, int i64 x.s.ser, int i64 x.s.win]), int i64 x.since, int i64 x.tries, int i64 x.rest]) X := by
 have h1 := run_lookM tasks_ok false h hk
 rw [hx] at h1; exact h1
def Tsk.failed (x : Tsk) (now : Int) : Tsk := ⟨x.rl, x.s, x.since, x.tries + 1, now + restN (x.tries + 1).toNat⟩
theorem store_tsk {X : World} {tb : Nat} {TL : List (Jk × Tsk)} (h : zce tasksM X tb TL) (hr : TL.length < maxLen) {k : Jk} (hk : k.wf) (x : Tsk) (tr re : Int) :
  ∃ o, (Instr.mapUpdate 154 (.map (some tb)) (.agg #[int i64 k.kd, int i64 k.s.t, int i64 k.s.ser, int i64 k.s.win]) (.agg #[.iface x.jt (.agg #[int i64 x.s.t, int i64 x.s.ser, int i64 x.s.win]), int i64 x.since, int i64 tr, int i64 re])).run Tryz.prog X = .ok () (setBlock X tb o) /\ zce tasksM (setBlock X tb o) tb (zer TL k ⟨x.rl, x.s, x.since, tr, re⟩) /\ zan (fun k => k = tb) X (setBlock X tb o) /\ o.isCells = false :=
 run_storeM tasks_ok h hr hk (⟨x.rl, x.s, x.since, tr, re⟩ : Tsk)
theorem del_lse2 {X : World} {qb : Nat} {QL : List (Tok × Lse)} {es : Array MapEntry} {cl : Nat} (hb : X.heap[qb]? = some (.map es cl)) (he : MEnts zfh es cl QL) {t : Tok} (ht : t.wf) (ty : TypeId) :
  ∃ es', (Builtin.delete_ #[153, 49] ty #[.map (some qb), .agg #[int i64 t.ep, int i64 t.num]]).run Tryz.prog X = .ok (.tuple #[]) (setBlock X qb (.map es' cl)) /\ (setBlock X qb (.map es' cl)).heap[qb]? = some (.map es' cl) /\ MEnts zfh es' cl (zcj QL t) /\ (∀ e, e ∈ es'.toList ↔ e ∈ es.toList /\ e.key ≠ tokVal t) /\ zan (fun k => k = qb) X (setBlock X qb (.map es' cl)) := by
 obtain ⟨es', h1, h2, h3⟩ := run_delM leases_ok hb he ht ty
 exact ⟨es', h1, setBlock_at (zaa hb) _, h2, h3, kept_block _⟩
set_option maxRecDepth 8000 in
set_option maxHeartbeats 4000000 in
theorem fail_any {w : World} {b : Nat} {c : Cf} {tv : Value} {ep num : Int} {tb qb : Nat} {TL : List (Jk × Tsk)} {QL : List (Tok × Lse)} (h : zbq w b c tv ep num tb qb TL QL) (t : Tok) (ht : t.wf) {g : Lse} (hg : zbm QL t = some g) {x : Tsk} (hkw : (⟨g.kd, g.s⟩ : Jk).wf) (hx : zbm TL ⟨g.kd, g.s⟩ = some x) (now : Int) (hnow : 0 <= now /\ now <= 100000) (htr : 0 <= x.tries /\ x.tries <= 1000000000) (hlen : TL.length <= 100000) {es : Array MapEntry} {cl : Nat} (hqe : w.heap[qb]? = some (.map es cl)) (hqm : MEnts zfh es cl QL) :
  Calls Tryz.prog 45 #[.pointer (some ⟨b, 0, none⟩), .agg #[int i64 t.ep, int i64 t.num], int i64 now] w fun e w' => e = .returned (.tuple #[]) /\ zbq w' b c tv ep num tb qb (zer TL ⟨g.kd, g.s⟩ (x.failed now)) (zcj QL t) /\ zan (fun k => k = tb \/ k = qb) w w' /\ ∃ es', w'.heap[qb]? = some (.map es' cl) /\ MEnts zfh es' cl (zcj QL t) /\ ∀ e, e ∈ es'.toList ↔ e ∈ es.toList /\ e.key ≠ tokVal t := by
 have hbl := h.lt
 have y0 := zap w (.cells #[int i64 t.ep, int i64 t.num] 49)
 have yz := zbd w (.cells #[int i64 t.ep, int i64 t.num] 49)
 have hb0 : Below w.heap.size w (w.alloc (.cells #[int i64 t.ep, int i64 t.num] 49)) := (Below.refl _ _).alloc (Nat.le_refl _) _
 have k0 : (w.alloc (.cells #[int i64 t.ep, int i64 t.num] 49)).cell? ⟨w.heap.size, 0, none⟩ = some (int i64 t.ep) := by rw [zac y0]; rfl
 have k1 : (w.alloc (.cells #[int i64 t.ep, int i64 t.num] 49)).cell? ⟨w.heap.size, 1, none⟩ = some (int i64 t.num) := by rw [zac y0]; rfl
 have x10 := (h.later hb0).cell10
 have HL := fun X hX => look_lse (h.leases.later (w' := X) hX) ht hg
 have g0 := HL _ hb0
 have g1 := HL _ hb0.drew
 have g2 := fun o => HL _ (hb0.alloc hb0.size o)
 have g3 := fun o => HL _ (hb0.alloc hb0.size o).drew
 have g4 := fun o => HL _ (hb0.drew.alloc hb0.drew.size o)
 have fl := fld_lse g
 have hkz : w.heap.size < (w.alloc (.cells #[int i64 t.ep, int i64 t.num] 49)).heap.size := by rw [yz]; omega
 have hblX : b < (w.alloc (.cells #[int i64 t.ep, int i64 t.num] 49)).heap.size := by rw [yz]; omega
 have HH := zab h
 have Y0 := zab y0
 have HB0 := zab hb0
 have HT := zab ht
 have HKW := zab hkw
 have HG := zab hg
 have HX := zab hx
 have HQE := zab hqe
 have HQM := zab hqm
 clear h y0 yz hb0 HL ht hkw hg hx hqe hqm
 go_enter Tryz.func45, Tryz.ntmps45
 go_wp2_with fail
 generalize (w.alloc (.cells #[int i64 t.ep, int i64 t.num] 49)) = X at *
 go_region
 have hbY : Below X.heap.size X (X.alloc (.cells #[int i64 g.kd, int i64 g.s.t, int i64 g.s.ser, int i64 g.s.win] 147)).drew := ((Below.refl _ _).alloc (Nat.le_refl _) _).drew
 have hky : (X.alloc (.cells #[int i64 g.kd, int i64 g.s.t, int i64 g.s.ser, int i64 g.s.win] 147)).drew.heap[X.heap.size]? = some (.cells #[int i64 g.kd, int i64 g.s.t, int i64 g.s.ser, int i64 g.s.win] 147 (0, 0)) := zap _ _
 have hyz : (X.alloc (.cells #[int i64 g.kd, int i64 g.s.t, int i64 g.s.ser, int i64 g.s.win] 147)).drew.heap.size = X.heap.size + 1 := zbd _ _
 generalize (X.alloc (.cells #[int i64 g.kd, int i64 g.s.t, int i64 g.s.ser, int i64 g.s.win] 147)).drew = Y at *
 have hwY : Below w.heap.size w Y := (ud HB0).trans (hbY.mono (ud HB0).size)
 have y9 := ((ud HH).later hwY).cell9
 have ky0 : Y.cell? ⟨X.heap.size, 0, none⟩ = some (int i64 g.kd) := by rw [zac hky]; rfl
 have ky1 : Y.cell? ⟨X.heap.size, 1, none⟩ = some (int i64 g.s.t) := by rw [zac hky]; rfl
 have ky2 : Y.cell? ⟨X.heap.size, 2, none⟩ = some (int i64 g.s.ser) := by rw [zac hky]; rfl
 have ky3 : Y.cell? ⟨X.heap.size, 3, none⟩ = some (int i64 g.s.win) := by rw [zac hky]; rfl
 have HLT := fun V hV => look_tsk (k := ⟨g.kd, g.s⟩) ((ud HH).tasks.later (w' := V) hV) (ud HKW) (ud HX)
 dsimp only at HLT
 clear g0 g1 g2 g3 g4 fl k0 k1 x10
 have g0 := HLT Y hwY
 have g1 := HLT Y.drew hwY.drew
 have g2 := fun o => HLT (Y.alloc o) (hwY.alloc hwY.size o)
 have g3 := fun o => HLT (Y.alloc o).drew (hwY.alloc hwY.size o).drew
 have g4 := fun o => HLT (Y.drew.alloc o) (hwY.drew.alloc hwY.drew.size o)
 have hbY2 : b < Y.heap.size := by omega
 have hkY2 : X.heap.size < Y.heap.size := by omega
 have HKYB := zab hky
 have HWY := zab hwY
 have HYZ := zab hyz
 have HYK := zab hbY
 clear hky hwY hyz hbY HLT
 go_wp2_with fail
 go_region
 have hbZ : Below Y.heap.size Y (Y.alloc (.cells #[.iface x.jt (.agg #[int i64 x.s.t, int i64 x.s.ser, int i64 x.s.win]), int i64 x.since, int i64 x.tries, int i64 x.rest] 162)).drew := ((Below.refl _ _).alloc (Nat.le_refl _) _).drew
 have htz : (Y.alloc (.cells #[.iface x.jt (.agg #[int i64 x.s.t, int i64 x.s.ser, int i64 x.s.win]), int i64 x.since, int i64 x.tries, int i64 x.rest] 162)).drew.heap[Y.heap.size]? = some (.cells #[.iface x.jt (.agg #[int i64 x.s.t, int i64 x.s.ser, int i64 x.s.win]), int i64 x.since, int i64 x.tries, int i64 x.rest] 162 (0, 0)) := zap _ _
 have hzz : (Y.alloc (.cells #[.iface x.jt (.agg #[int i64 x.s.t, int i64 x.s.ser, int i64 x.s.win]), int i64 x.since, int i64 x.tries, int i64 x.rest] 162)).drew.heap.size = Y.heap.size + 1 := zbd _ _
 generalize (Y.alloc (.cells #[.iface x.jt (.agg #[int i64 x.s.t, int i64 x.s.ser, int i64 x.s.win]), int i64 x.since, int i64 x.tries, int i64 x.rest] 162)).drew = Z at *
 have hwZ : Below w.heap.size w Z := (ud HWY).trans (hbZ.mono (ud HWY).size)
 have t0 : Z.cell? ⟨Y.heap.size, 0, none⟩ = some (.iface x.jt (.agg #[int i64 x.s.t, int i64 x.s.ser, int i64 x.s.win])) := by rw [zac htz]; rfl
 have t1 : Z.cell? ⟨Y.heap.size, 1, none⟩ = some (int i64 x.since) := by rw [zac htz]; rfl
 have t2 : Z.cell? ⟨Y.heap.size, 2, none⟩ = some (int i64 x.tries) := by rw [zac htz]; rfl
 have t3 : Z.cell? ⟨Y.heap.size, 3, none⟩ = some (int i64 x.rest) := by rw [zac htz]; rfl
 have tf := fun j => zaz htz j
 have hZl := zaa htz
 have hkyz := (hbZ.block X.heap.size hkY2).trans (ud HKYB)
 have HR : ∀ W, Hid (Calls Tryz.prog 97 #[int i64 (x.tries + 1)] W fun e w' => e = .returned (int i64 (restN (x.tries + 1).toNat)) /\ w' = W) := fun W => by
  have := rest_any (x.tries + 1).toNat (by omega) W
  rw [Int.toNat_of_nonneg (by omega)] at this
  exact this
 obtain ⟨q1, q2⟩ := restN_bound (x.tries + 1).toNat
 obtain ⟨rv, hrv⟩ : ∃ rv : Nat, restN (x.tries + 1).toNat = rv := ⟨_, rfl⟩
 rw [hrv] at q1 q2
 simp only [hrv] at HR
 have HRV := zab hrv
 have HTZ := zab htz
 have HWZ := zab hwZ
 have HKZ := zab hkyz
 have HBZ := zab hbZ
 clear g0 g1 g2 g3 g4 ky0 ky1 ky2 ky3 y9 htz hwZ hbZ hkyz hrv
 go_wp2_with (first | (go_at_call 97; refine (ud (HR _)).mono ?_; rintro e Z2 ⟨rfl, rfl⟩))
 have hU : ((Z.setCell ⟨Y.heap.size, 2, none⟩ (int i64 (x.tries + 1))).setCell ⟨Y.heap.size, 3, none⟩ (int i64 (now + rv))).heap[Y.heap.size]? = some (.cells #[.iface x.jt (.agg #[int i64 x.s.t, int i64 x.s.ser, int i64 x.s.win]), int i64 x.since, int i64 (x.tries + 1), int i64 (now + rv)] 162 (0, 0)) := zbz (i := 3) (zbz (i := 2) (ud HTZ) (int i64 (x.tries + 1))) (int i64 (now + rv))
 have hbU : Below Y.heap.size Z ((Z.setCell ⟨Y.heap.size, 2, none⟩ (int i64 (x.tries + 1))).setCell ⟨Y.heap.size, 3, none⟩ (int i64 (now + rv))) := ((Below.refl _ _).setCell (p := ⟨Y.heap.size, 2, none⟩) (Nat.le_refl _) _).setCell (p := ⟨Y.heap.size, 3, none⟩) (Nat.le_refl _) _
 generalize ((Z.setCell ⟨Y.heap.size, 2, none⟩ (int i64 (x.tries + 1))).setCell ⟨Y.heap.size, 3, none⟩ (int i64 (now + rv))) = U at *
 have hwU : Below w.heap.size w U := (ud HWZ).trans (hbU.mono (ud HWY).size)
 have hkU := (hbU.block X.heap.size hkY2).trans (ud HKZ)
 have hyU := (hbU.block w.heap.size (by have := hkz; omega)).trans (((ud HBZ).block w.heap.size (by have := hkz; omega)).trans (((ud HYK).block w.heap.size hkz).trans (ud Y0)))
 have u9 := ((ud HH).later hwU).cell9
 have ku0 : U.cell? ⟨X.heap.size, 0, none⟩ = some (int i64 g.kd) := by rw [zac hkU]; rfl
 have ku1 : U.cell? ⟨X.heap.size, 1, none⟩ = some (int i64 g.s.t) := by rw [zac hkU]; rfl
 have ku2 : U.cell? ⟨X.heap.size, 2, none⟩ = some (int i64 g.s.ser) := by rw [zac hkU]; rfl
 have ku3 : U.cell? ⟨X.heap.size, 3, none⟩ = some (int i64 g.s.win) := by rw [zac hkU]; rfl
 have tu0 : U.cell? ⟨Y.heap.size, 0, none⟩ = some (.iface x.jt (.agg #[int i64 x.s.t, int i64 x.s.ser, int i64 x.s.win])) := by rw [zac hU]; rfl
 have tu1 : U.cell? ⟨Y.heap.size, 1, none⟩ = some (int i64 x.since) := by rw [zac hU]; rfl
 have tu2 : U.cell? ⟨Y.heap.size, 2, none⟩ = some (int i64 (x.tries + 1)) := by rw [zac hU]; rfl
 have tu3 : U.cell? ⟨Y.heap.size, 3, none⟩ = some (int i64 (now + rv)) := by rw [zac hU]; rfl
 have hlU := zaa hU
 have hlK := zaa hkU
 have hlT := zaa hyU
 have hbU2 : b < U.heap.size := Nat.lt_of_lt_of_le hbl hwU.size
 obtain ⟨o, hrun, hm, hk, ho⟩ := store_tsk (X := U.drew) (k := ⟨g.kd, g.s⟩) ((ud HH).tasks.later hwU.drew) (by simp only [maxLen]; omega) (ud HKW) x (x.tries + 1) (now + rv)
 dsimp only at hrun
 have hput := ((ud HH).later hwU.drew).putTasks hm hk
 have hyM := hk.heap (k := w.heap.size) hyU (fun e => by have := (ud HH).foot_lt tb (.inr (.inl rfl)); omega)
 have m10 := hput.cell10
 have tm0 : (setBlock U.drew tb o).cell? ⟨w.heap.size, 0, none⟩ = some (int i64 t.ep) := by rw [zac hyM]; rfl
 have tm1 : (setBlock U.drew tb o).cell? ⟨w.heap.size, 1, none⟩ = some (int i64 t.num) := by rw [zac hyM]; rfl
 have hlM := zaa hyM
 have hbM := hput.lt
 have hqU : (setBlock U.drew tb o).heap[qb]? = some (.map es cl) := hk.heap (k := qb) ((hwU.block qb (zaa (ud HQE))).trans (ud HQE)) (fun e => (ud HH).apart e.symm)
 obtain ⟨es3, hdel3, hq3, hm3, hs3, hk3⟩ := del_lse2 (X := (setBlock U.drew tb o).drew) hqU (ud HQM) (ud HT) 0
 have HP := zab hput
 have HK := zab hk
 have HQ3 := zab hq3
 have HS3 := zab hs3
 have HM3 := zab hm3
 have HK3 := zab hk3
 have HWU := zab hwU
 clear t0 t1 t2 t3 tf hU hbU hkU hyU hwU hm hk hput hyM hm3 hk3 hq3 hs3 hqU
 go_region
 go_wp2_with fail
 generalize setBlock U.drew tb o = M at *
 clear hrun u9 ku0 ku1 ku2 ku3 tu0 tu1 tu2 tu3
 go_region
 go_wp2_with fail
 go_end0
 have hP := ud HP
 have hk3 := ud HK3
 have hkM : zan (fun k => k = tb \/ k = qb) w M := (zan.of_below (f := fun k => k = tb \/ k = qb) (ud HWU).drew).trans (ud HK) (fun _ _ e => .inl e)
 refine ⟨rfl, ⟨hk3.heap hP.head (fun e => hP.qb_ne e.symm), ?_, ⟨es3, cl, ud HQ3, ud HM3⟩, hP.apart⟩, ?_, es3, ud HQ3, ud HM3, ud HS3⟩
 ·have := (hP.tasks.later (w' := M.drew) (Below.refl _ _).drew).kept hk3 (fun e => hP.apart e)
  unfold Tsk.failed
  rw [ud HRV]
  exact this
 ·exact (hkM.drew).trans hk3 (fun _ _ e => .inr e)
inductive Exps (now : Int) (TL : List (Jk × Tsk)) (QL : List (Tok × Lse)) : List (Jk × Tsk) -> List (Tok × Lse) -> Prop
 | nil : Exps now TL QL TL QL
 | step {T1 : List (Jk × Tsk)} {Q1 : List (Tok × Lse)} {t : Tok} {g : Lse} {x : Tsk} : Exps now TL QL T1 Q1 -> zbm Q1 t = some g -> g.til <= now -> zbm T1 ⟨g.kd, g.s⟩ = some x -> Exps now TL QL (zer T1 ⟨g.kd, g.s⟩ (x.failed now)) (zcj Q1 t)
structure BInv (B : Int) (n : Nat) (TL : List (Jk × Tsk)) (QL : List (Tok × Lse)) : Prop where
 job : ∀ p, p ∈ QL -> ∃ x, zbm TL ⟨p.2.kd, p.2.s⟩ = some x
 tries : ∀ p, p ∈ TL -> 0 <= p.2.tries /\ p.2.tries + QL.length <= B
 wfk : ∀ p, p ∈ TL -> p.1.wf
 len : TL.length <= n
 tn : (zaj TL).Nodup
 qn : (zaj QL).Nodup
theorem lt_delM {α β : Type} [DecidableEq α] {L : List (α × β)} {a : α} {v : β} (h : (a, v) ∈ L) : (zcj L a).length < L.length := by
 unfold zcj
 refine Nat.lt_of_le_of_ne (List.length_filter_le _ _) (fun e => ?_)
 have := List.length_filter_eq_length_iff.1 e (a, v) h
 simp at this
theorem BInv.step {B : Int} {n : Nat} {T1 : List (Jk × Tsk)} {Q1 : List (Tok × Lse)} (h : BInv B n T1 Q1) (now : Int) {t : Tok} {g : Lse} {x : Tsk} (hg : zbm Q1 t = some g) (hx : zbm T1 ⟨g.kd, g.s⟩ = some x) : BInv B n (zer T1 ⟨g.kd, g.s⟩ (x.failed now)) (zcj Q1 t) := by
 have hgm := zat hg
 have hxm := zat hx
 have hl := lt_delM hgm
 refine ⟨fun p hp => ?_, fun p hp => ?_, fun p hp => ?_, ?_, zdx h.tn, zdj h.qn⟩
 ·obtain ⟨y, hy⟩ := h.job p (zbh.1 hp).1
  rw [getM_put h.tn]
  split
  ·exact ⟨_, rfl⟩
  ·exact ⟨y, hy⟩
 ·rcases mem_putM hp with rfl | ⟨hp, _⟩
  ·obtain ⟨a, b⟩ := h.tries _ hxm
   dsimp only [Tsk.failed] at a b ⊢
   omega
  ·obtain ⟨a, b⟩ := h.tries _ hp
   omega
 ·rcases mem_putM hp with rfl | ⟨hp, _⟩
  ·exact h.wfk (_, x) hxm
  ·exact h.wfk _ hp
 ·rw [length_putM, if_pos (show (⟨g.kd, g.s⟩ : Jk) ∈ zaj T1 from List.mem_map.2 ⟨(_, x), hxm, rfl⟩)]; exact h.len
theorem once_eq {es : Array MapEntry} (h : (es.toList.map (·.born)).Nodup) {a b : MapEntry} (ha : a ∈ es.toList) (hb : b ∈ es.toList) (e : a.born = b.born) : a = b := by
 obtain ⟨i, hi, ei⟩ := List.getElem_of_mem ha
 obtain ⟨j, hj, ej⟩ := List.getElem_of_mem hb
 have h' : es.toList.Pairwise (fun a b => a.born ≠ b.born) := List.pairwise_map.1 h
 rcases Nat.lt_trichotomy i j with hh | hh | hh
 ·have := List.pairwise_iff_getElem.1 h' i j hi hj hh; rw [ei, ej] at this; exact absurd e this
 ·subst hh; rw [ei] at ej; exact ej
 ·have := List.pairwise_iff_getElem.1 h' j i hj hi hh; rw [ei, ej] at this; exact absurd e.symm this
theorem ents_of {es : Array MapEntry} {clock : Nat} {L : List (Tok × Lse)} (h : MEnts zfh es clock L) {p : Tok × Lse} (hp : p ∈ L) : ∃ x ∈ es.toList, x.key = tokVal p.1 /\ x.val = lseVal p.2 := by
 have h1 : (zfh.ke p.1, zfh.ve p.2) ∈ es.toList.map (fun e => (e.key, e.val)) := h.kv ▸ List.mem_map.2 ⟨p, hp, rfl⟩
 obtain ⟨x, hx, e⟩ := List.mem_map.1 h1
 injection e with e1 e2
 exact ⟨x, hx, e1, e2⟩
theorem lse_inj {a b : Lse} (h : lseVal a = lseVal b) : a.til = b.til := by
 unfold lseVal at h
 injection h with h
 simp at h
 exact h.2.2.2.2.2
set_option maxRecDepth 8000 in
set_option maxHeartbeats 4000000 in
theorem expire_any {w : World} {b : Nat} {c : Cf} {tv : Value} {ep num : Int} {tb qb : Nat} {TL : List (Jk × Tsk)} {QL : List (Tok × Lse)} (h : zbq w b c tv ep num tb qb TL QL) (now : Int) (hnow : 0 <= now /\ now <= 100000) (hI : BInv 1000000 100000 TL QL) :
  Calls Tryz.prog 76 #[.pointer (some ⟨b, 0, none⟩), int i64 now] w fun e w' => e = .returned (.tuple #[]) /\ ∃ TL' QL', zbq w' b c tv ep num tb qb TL' QL' /\ zan (fun k => k = tb \/ k = qb) w w' /\ Exps now TL QL TL' QL' /\ ∀ p ∈ QL', now < p.2.til := by
 obtain ⟨es0, clock, hqe, hqm⟩ := h.leases
 have hbl := h.lt
 have c10 := h.cell10
 have hrange := run_range_map (P := Tryz.prog) w 153 _ _ qb es0 clock Tryz.underlying153 hqe
 have HH := zab h
 have HQM := zab hqm
 have HQE := zab hqe
 clear h hqm
 go_enter Tryz.func76, Tryz.ntmps76
 go_wp2_with fail
 go_loopw [4, 5] (fun _ _ wr => ∃ (seen : Array Nat) (c0 : Nat) (es : Array MapEntry) (T1 : List (Jk × Tsk)) (Q1 : List (Tok × Lse)), wr.heap[w.heap.size]? = some (.mapIter (some qb) clock seen c0) /\ clock <= c0 /\ wr.heap[qb]? = some (.map es clock) /\ MEnts zfh es clock Q1 /\ (∀ e ∈ es.toList, e ∈ es0.toList) /\ (∀ e ∈ es.toList, e.born ∈ seen.toList -> ∀ g, e.val = lseVal g -> now < g.til) /\ zbq wr b c tv ep num tb qb T1 Q1 /\ zan (fun k => k = tb \/ k = qb) w wr /\ Exps now TL QL T1 Q1 /\ BInv 1000000 100000 T1 Q1)
  (fun _ _ wr => leftAt es0 w.heap.size wr)
 case atStart =>
  have hb0 : Below w.heap.size w (w.alloc (.mapIter (some qb) clock #[] clock)) := (Below.refl _ _).alloc (Nat.le_refl _) _
  exact ⟨#[], clock, es0, TL, QL, zap _ _, Nat.le_refl _, (hb0.block _ (zaa (ud HQE))).trans (ud HQE), ud HQM, fun _ h => h, by simp, (ud HH).later hb0, zan.of_below hb0, .nil, hI⟩
 case round =>
  obtain ⟨seen, c0, es, T1, Q1, hr, hc0, hqr, hm1, hin, hsn, hB, hK, hE, hI1⟩ := hrel
  have hrl := zaa hr
  clear hrange c10 hqe
  rcases run_next_at (P := Tryz.prog) wr 0 w.heap.size qb clock c0 seen es clock hr hqr hm1.born hc0 with ⟨hz, hnext⟩ | ⟨e, hel, w1, hw1, hnext⟩
  ·have HP := zab (And.intro hm1 (And.intro hsn (And.intro hB (And.intro hK (And.intro hE hz)))))
   clear hz hm1 hsn hB hK hE hI1 hI hin
   go_wp2_with fail
   go_end0
   obtain ⟨hm1, hsn, hB, hK, hE, hz⟩ := ud HP
   refine ⟨rfl, T1, Q1, hB, hK, hE, fun p hp => ?_⟩
   obtain ⟨x, hx, ek, ev⟩ : ∃ x ∈ es.toList, x.key = tokVal p.1 /\ x.val = lseVal p.2 := ents_of hm1 hp
   refine hsn x hx ?_ p.2 ev
   by_cases hs : x.born ∈ seen.toList
   ·exact hs
   ·have : x ∈ (leftOf es seen).toList := zdw.2 ⟨hx, hs⟩
    rw [Array.eq_empty_of_size_eq_zero hz] at this
    simp at this
  ·have HEL := zab hel
   obtain ⟨hee, hns⟩ := zdw.1 hel
   have hr1 : w1.heap[w.heap.size]? = some (.mapIter (some qb) clock seen c0) := by rcases hw1 with rfl | rfl <;> exact hr
   have hq1 : w1.heap[qb]? = some (.map es clock) := by rcases hw1 with rfl | rfl <;> exact hqr
   have hne : qb ≠ w.heap.size := by have := zaa (ud HQE); omega
   obtain ⟨X, hX⟩ : ∃ X, setBlock w1 w.heap.size (.mapIter (some qb) clock (seen.push e.born) clock) = X := ⟨_, rfl⟩
   have hXr : X.heap[w.heap.size]? = some (.mapIter (some qb) clock (seen.push e.born) clock) := by rw [<- hX]; exact setBlock_at (zaa hr1) _
   have hXb : X.heap[qb]? = some (.map es clock) := by rw [<- hX, setBlock_other hne]; exact hq1
   have hkX : zan (fun k => k = w.heap.size) wr X := by
    rw [<- hX]; rcases hw1 with rfl | rfl
    ·exact kept_block _
    ·exact (zan.refl (fun k => k = w.heap.size) wr).drew.trans (kept_block _) (fun _ _ h => h)
   have hBX := hB.kept hkX (fun k hk e => by have := (ud HH).foot_lt k hk; omega)
   have hKX : zan (fun k => k = tb \/ k = qb) w X := hK.trans hkX (fun i hi e => by omega)
   rw [hX] at hnext
   have hent := run_entry_at (P := Tryz.prog) X w.heap.size qb clock seen es clock e hXr hXb hee hm1.once
   obtain ⟨hdm, hk, hv⟩ := dec_at leases_ok hm1 hee
   obtain ⟨⟨t, y⟩, hy0⟩ : ∃ y, decE zfh Q1 e = y := ⟨_, rfl⟩
   rw [hy0] at hdm hk hv
   have HKV := zab (And.intro hdm (And.intro hk hv))
   have hkey : e.key = tokVal t := hk
   have hval : e.val = lseVal y := hv
   unfold tokVal at hkey
   unfold lseVal at hval
   rw [hkey, hval] at hnext hent
   have hXl := zaa hXr
   have hxw := hBX.lt
   have HP := zab (And.intro hm1 (And.intro hsn (And.intro hBX (And.intro hKX (And.intro hE (And.intro hI1 (And.intro hin (And.intro hr (And.intro hXr (And.intro hXb hee))))))))))
   have hg0 : zbm Q1 t = some y := zcg hm1.nodup hdm
   have HGT := zab hg0
   obtain ⟨x, hx⟩ := hI1.job _ hdm
   have HXT := zab hx
   have hty := hI1.tries _ (zat hx)
   dsimp only at hx hty
   have HF : ∀ V, Below X.heap.size X V -> Hid (Calls Tryz.prog 45 #[.pointer (some ⟨b, 0, none⟩), .agg #[int i64 t.ep, int i64 t.num], int i64 now] V fun e w' => e = .returned (.tuple #[]) /\ zbq w' b c tv ep num tb qb (zer T1 ⟨y.kd, y.s⟩ (x.failed now)) (zcj Q1 t) /\ zan (fun k => k = tb \/ k = qb) V w' /\ ∃ es', w'.heap[qb]? = some (.map es' clock) /\ MEnts zfh es' clock (zcj Q1 t) /\ ∀ e, e ∈ es'.toList ↔ e ∈ es.toList /\ e.key ≠ tokVal t) := fun V hV =>
    fail_any (hBX.later hV) t (hm1.wf _ hdm) hg0 (hI1.wfk _ (zat hx)) hx now hnow ⟨hty.1, by omega⟩ hI1.len ((hV.block _ (zaa hXb)).trans hXb) hm1
   clear hm1 hsn hB hK hE hI1 hI hin hr hXr hXb hkX hBX hKX hr1 hq1 hX hw1 hk hv hdm hy0 hel hee hns hkey hval hqr hg0 hx hty
   have hV : Below X.heap.size X ((X.alloc (.cells #[int i64 t.ep, int i64 t.num] 49)).alloc (.cells #[int i64 y.kd, int i64 y.s.t, int i64 y.s.ser, int i64 y.s.win, int i64 y.slot, int i64 y.til] 149)) := ((Below.refl _ _).alloc (Nat.le_refl _) _).alloc ((Below.refl _ _).alloc (Nat.le_refl _) _).size _
   have HV := zab hV
   clear hV
   by_cases htil : y.til <= now
   ·go_wp2_with (first | (go_at_call 45; refine (ud (HF _ (ud HV))).mono ?_; rintro e3 W3 ⟨rfl, h3⟩; have H3 := zab h3; clear h3))
    obtain ⟨hm1, hsn, hBX, hKX, hE, hI1, hin, hr, hXr, hXb, hee⟩ := ud HP
    obtain ⟨hB3, hK3, es3, hq3, hm3, hs3⟩ := ud H3
    obtain ⟨hdm, hek, hev⟩ := ud HKV
    have hV := ud HV
    have hr3 := hK3.heap ((hV.block _ hXl).trans hXr) (fun e => by
     rcases e with e | e
     ·have := (ud HH).foot_lt tb (.inr (.inl rfl)); omega
     ·exact hne e.symm)
    refine ⟨⟨_, _, es3, _, _, hr3, Nat.le_refl _, hq3, hm3, fun a ha => hin a ((hs3 a).1 ha).1, fun a ha hs g hg => ?_, hB3, (zcm hKX hV).trans hK3 (fun _ _ h => h), .step hE (ud HGT) htil (ud HXT), hI1.step now (ud HGT) (ud HXT)⟩, ?_⟩
    ·obtain ⟨ha1, ha2⟩ := (hs3 a).1 ha
     rw [Array.toList_push, List.mem_append] at hs
     rcases hs with hs | hs
     ·exact hsn a ha1 hs g hg
     ·rw [List.mem_singleton] at hs
      rw [once_eq hm1.once ha1 hee hs] at ha2
      exact absurd hek ha2
    ·rw [leftAt_eq hr3, leftAt_eq hr]; exact left_less (zdw.2 ⟨hin e hee, (zdw.1 (ud HEL)).2⟩)
   ·go_wp2_with fail
    obtain ⟨hm1, hsn, hBX, hKX, hE, hI1, hin, hr, hXr, hXb, hee⟩ := ud HP
    obtain ⟨hdm, hek, hev⟩ := ud HKV
    have hV := ud HV
    have hr3 := (hV.block _ hXl).trans hXr
    refine ⟨⟨_, _, es, _, _, hr3, Nat.le_refl _, (hV.block _ (zaa hXb)).trans hXb, hm1, hin, fun a ha hs g hg => ?_, hBX.later hV, zcm hKX hV, hE, hI1⟩, ?_⟩
    ·rw [Array.toList_push, List.mem_append] at hs
     rcases hs with hs | hs
     ·exact hsn a ha hs g hg
     ·rw [List.mem_singleton] at hs
      rw [once_eq hm1.once ha hee hs] at hg
      have := lse_inj (hg.symm.trans hev)
      dsimp only at this
      omega
    ·rw [leftAt_eq hr3, leftAt_eq hr]; exact left_less (zdw.2 ⟨hin e hee, (zdw.1 (ud HEL)).2⟩)
end Go.Proofs.YtpbimdkclnekeaaGreat

namespace Go.Proofs.YtpbimdkclnekeaaGreat
open Go.RowKit
set_option linter.unusedVariables false
theorem own_put {w : World} {B g size n cap : Nat} {e : TypeId} {xs : List Value} (h : w.ownsRow B e size (.slice (some ⟨g, 0, none⟩) n cap) n xs) {i : Nat} (hi : i < n * size) (u : Value) : (w.setCell ⟨g, i, none⟩ u).ownsRow B e size (.slice (some ⟨g, 0, none⟩) n cap) n (xs.set i u) := by
 refine ⟨by simpa using h.1, ?_⟩
 rcases h.2 with ⟨h2, _⟩ | ⟨g', cap', cur, hv, hb, hcur, hn, hm, hz, ht⟩
 ·cases h2
 ·injection hv with hv1 hv2 hv3
  injection hv1 with hv1
  injection hv1 with hv1
  subst hv1 hv3
  refine .inr ⟨g, cap, cur.setIfInBounds i u, rfl, hb, zbz hcur u, hn, hm, by simpa using hz, ?_⟩
  rw [Array.toList_setIfInBounds, List.take_set, ht]
theorem flat_set {α : Type} {f : α -> List Value} {k : Nat} (hf : ∀ a, (f a).length = k) {a a' : α} {j : Nat} {v : Value} (hj : j < k) (hv : (f a).set j v = f a') : ∀ (l : List α) (i : Nat), l[i]? = some a -> (l.flatMap f).set (i * k + j) v = (l.set i a').flatMap f
 | [], i, h => by simp at h
 | b :: l, 0, h => by
  have hb : b = a := by simpa using h
  subst hb
  simp only [List.flatMap_cons, List.set_cons_zero, Nat.zero_mul, Nat.zero_add]
  rw [List.set_append_left _ _ (by rw [hf]; exact hj), hv]
 | b :: l, i + 1, h => by
  have ih := flat_set hf hj hv l i (by simpa using h)
  simp only [List.flatMap_cons, List.set_cons_succ]
  rw [List.set_append_right _ _ (by rw [hf, Nat.add_mul]; omega), hf, <- ih]
  congr 2
  rw [Nat.add_mul]; omega
theorem zbk.putTask {B : Nat} {w : World} {p g cap : Nat} {m : RM} {tv nv pv gv : Value} (h : zbk B w p m tv nv pv gv (.slice (some ⟨g, 0, none⟩) m.tasks.length cap)) {i j : Nat} {x x' : Tk} {v : Value} (hx : m.tasks[i]? = some x) (hj : j < 11) (hv : (tkV x).set j v = tkV x') :
  zbk B (w.setCell ⟨g, i * 11 + j, none⟩ v) p { m with tasks := m.tasks.set i x' } tv nv pv gv (.slice (some ⟨g, 0, none⟩) (m.tasks.set i x').length cap) /\ zan (fun k => k = g) w (w.setCell ⟨g, i * 11 + j, none⟩ v) := by
 have hil : i < m.tasks.length := (List.getElem?_eq_some_iff.1 hx).1
 have hk : zan (fun k => k = g) w (w.setCell ⟨g, i * 11 + j, none⟩ v) := zag (zan.refl _ _) rfl
 have ho := own_put h.krow (i := i * 11 + j) (by omega) v
 rw [flat_set tkV_len hj hv _ _ hx] at ho
 have e1 : (m.tasks.set i x').length = m.tasks.length := List.length_set ..
 refine ⟨⟨?_, h.base, zae h.trow hk (fun k a b => zfb h.trow h.krow (by decide) k a (by rw [b]; rfl)), zae h.nrow hk (fun k a b => zfb h.nrow h.krow (by decide) k a (by rw [b]; rfl)), zae h.prow hk (fun k a b => zfb h.prow h.krow (by decide) k a (by rw [b]; rfl)), zae h.grow hk (fun k a b => zfb h.grow h.krow (by decide) k a (by rw [b]; rfl)), ?_⟩, hk⟩
 ·rw [e1]; exact hk.heap h.head (fun e => zau h.head h.krow (by decide) g rfl e.symm)
 ·rw [e1]; exact ho
def Tk.fail (now : Int) (x : Tk) : Tk := { x with tries := x.tries + 1, rest := now + restN (x.tries + 1).toNat, ep := 0, num := 0, slot := -1, till := 0 }
end Go.Proofs.YtpbimdkclnekeaaGreat

namespace Go.Proofs.YtpbimdkclnekeaaGreat
open Value (int)
open IntKind (i64)
open Go.RowKit
set_option linter.unusedVariables false
theorem zbk.putTask' {B : Nat} {w : World} {p g cap : Nat} {m : RM} {tv nv pv gv : Value} {l : List Tk} (h : zbk B w p { m with tasks := l } tv nv pv gv (.slice (some ⟨g, 0, none⟩) l.length cap)) {i : Nat} {x : Tk} (hx : l[i]? = some x) (j : Nat) (x' : Tk) (v : Value) (hj : j < 11) (hv : (tkV x).set j v = tkV x') :
  zbk B (w.setCell ⟨g, i * 11 + j, none⟩ v) p { m with tasks := l.set i x' } tv nv pv gv (.slice (some ⟨g, 0, none⟩) (l.set i x').length cap) /\ (l.set i x')[i]? = some x' /\ zan (fun k => k = g) w (w.setCell ⟨g, i * 11 + j, none⟩ v) := by
 have hil : i < l.length := (List.getElem?_eq_some_iff.1 hx).1
 obtain ⟨h1, h2⟩ := zbk.putTask (m := { m with tasks := l }) h hx hj hv
 exact ⟨h1, by rw [List.getElem?_set_self hil], h2⟩
theorem fail_done {B : Nat} {w : World} {p g cap : Nat} {m : RM} {tv nv pv gv : Value} {l : List Tk} (h : zbk B w p { m with tasks := l } tv nv pv gv (.slice (some ⟨g, 0, none⟩) l.length cap)) {i : Nat} {x : Tk} (hx : l[i]? = some x) (r : Int) :
  zbk B (((((w.setCell ⟨g, i * 11 + 6, none⟩ (int i64 r)).setCell ⟨g, i * 11 + 7, none⟩ (int i64 0)).setCell ⟨g, i * 11 + 7 + 1, none⟩ (int i64 0)).setCell ⟨g, i * 11 + 9, none⟩ (int i64 (-1))).setCell ⟨g, i * 11 + 10, none⟩ (int i64 0)) p { m with tasks := l.set i { x with rest := r, ep := 0, num := 0, slot := -1, till := 0 } } tv nv pv gv (.slice (some ⟨g, 0, none⟩) l.length cap) /\
  zan (fun k => k = g) w (((((w.setCell ⟨g, i * 11 + 6, none⟩ (int i64 r)).setCell ⟨g, i * 11 + 7, none⟩ (int i64 0)).setCell ⟨g, i * 11 + 7 + 1, none⟩ (int i64 0)).setCell ⟨g, i * 11 + 9, none⟩ (int i64 (-1))).setCell ⟨g, i * 11 + 10, none⟩ (int i64 0)) := by
 obtain ⟨a1, b1, c1⟩ := h.putTask' hx 6 { x with rest := r } (int i64 r) (by omega) rfl
 obtain ⟨a2, b2, c2⟩ := a1.putTask' b1 7 { x with rest := r, ep := 0 } (int i64 0) (by omega) rfl
 obtain ⟨a3, b3, c3⟩ := a2.putTask' b2 8 { x with rest := r, ep := 0, num := 0 } (int i64 0) (by omega) rfl
 obtain ⟨a4, b4, c4⟩ := a3.putTask' b3 9 { x with rest := r, ep := 0, num := 0, slot := -1 } (int i64 (-1)) (by omega) rfl
 obtain ⟨a5, b5, c5⟩ := a4.putTask' b4 10 { x with rest := r, ep := 0, num := 0, slot := -1, till := 0 } (int i64 0) (by omega) rfl
 refine ⟨?_, (((c1.trans c2 (fun _ _ e => e)).trans c3 (fun _ _ e => e)).trans c4 (fun _ _ e => e)).trans c5 (fun _ _ e => e)⟩
 simp only [List.set_set, List.length_set] at a5
 exact a5
theorem fend {B : Nat} {w W Z : World} {p g cap q : Nat} {m : RM} {tv nv pv gv : Value} {i : Nat} {x : Tk} (hq : x.tries + 1 = q) (hk : zan (fun k => k = g) w W) (h : zbk B Z p { m with tasks := (m.tasks.set i { x with tries := (q : Int) }).set i { x with tries := (q : Int), rest := m.now + (restN q : Nat), ep := 0, num := 0, slot := -1, till := 0 } } tv nv pv gv (.slice (some ⟨g, 0, none⟩) (m.tasks.set i { x with tries := (q : Int) }).length cap) /\ zan (fun k => k = g) W Z) :
  zbk B Z p { m with tasks := m.tasks.set i (x.fail m.now) } tv nv pv gv (.slice (some ⟨g, 0, none⟩) m.tasks.length cap) /\ zan (fun k => k = g) w Z := by
 refine ⟨?_, hk.trans h.2 (fun _ _ e => e)⟩
 have h1 := h.1
 simp only [List.set_set, List.length_set] at h1
 have e : x.fail m.now = { x with tries := (q : Int), rest := m.now + (restN q : Nat), ep := 0, num := 0, slot := -1, till := 0 } := by
  unfold Tk.fail
  rw [hq, Int.toNat_natCast]
 rw [e]; exact h1
set_option maxRecDepth 8000 in
set_option maxHeartbeats 4000000 in
theorem rfails_any {B : Nat} {w : World} {p g cap : Nat} {m : RM} {tv nv pv gv : Value} (h : zbk B w p m tv nv pv gv (.slice (some ⟨g, 0, none⟩) m.tasks.length cap)) (hkl : m.tasks.length <= 1000000000) {i : Nat} {x : Tk} (hx : m.tasks[i]? = some x) (ht : 0 <= x.tries /\ x.tries <= 1000000000) (hnow : 0 <= m.now /\ m.now <= 100000) :
  Calls Tryz.prog 200 #[.pointer (some ⟨p, 0, none⟩), int i64 i] w fun e w' => e = .returned (.tuple #[]) /\ zbk B w' p { m with tasks := m.tasks.set i (x.fail m.now) } tv nv pv gv (.slice (some ⟨g, 0, none⟩) m.tasks.length cap) /\ zan (fun k => k = g) w w' := by
 have hil : i < m.tasks.length := (List.getElem?_eq_some_iff.1 hx).1
 have hili : (i : Int) < m.tasks.length := by omega
 obtain ⟨t0, t1⟩ := ht
 obtain ⟨w1, w2⟩ := hnow
 obtain ⟨q, hq⟩ : ∃ q : Nat, x.tries + 1 = q := ⟨(x.tries + 1).toNat, by omega⟩
 obtain ⟨r7, -, -, -, r11, -, -⟩ := h.rest
 have hp := h.lt
 obtain ⟨g', cap', hv, hb, hgl, -, -, -, -, -, y5, -, -, -, -, -⟩ := tk_at h.krow hx
 injection hv with hv1 hv2 hv3
 injection hv1 with hv1
 injection hv1 with hv1
 subst hv1 hv3
 have rf : ∀ j, w.frozen? ⟨g, j, none⟩ = false := fun j => by
  obtain ⟨cur, hc⟩ := zbp h.krow (k := g) rfl
  exact zaz hc j
 have hpg : ¬ p = g := fun e => zau h.head h.krow (by decide) g rfl e.symm
 have H := zab h
 have H1 := zab (h.putTask (j := 5) (v := int i64 q) (x' := { x with tries := q }) hx (by omega) rfl)
 have hx1 : (m.tasks.set i { x with tries := (q : Int) })[i]? = some { x with tries := (q : Int) } := by rw [List.getElem?_set_self hil]
 have hq0 : (q : Int) <= 1000000001 := by omega
 have HQ := zab hq
 clear h hb
 go_enter Tryz.func200, Tryz.ntmps200
 go_wp2_with fail
 generalize (w.setCell ⟨g, i * 11 + 5, none⟩ (int i64 q)) = W at *
 obtain ⟨hR, hK⟩ := ud H1
 obtain ⟨r7, -, -, -, r11, -, -⟩ := hR.rest
 have hp1 := hR.lt
 have hsl : (m.tasks.set i { x with tries := (q : Int) }).length = m.tasks.length := List.length_set ..
 clear r7 r11 y5 rf
 obtain ⟨r7, -, -, -, r11, -, -⟩ := hR.rest
 obtain ⟨g', cap', hv, hb, hgl1, -, -, -, -, -, y5, y6, y7, y8, y9, y10⟩ := tk_at hR.krow hx1
 injection hv with hv1 hv2 hv3
 injection hv1 with hv1
 injection hv1 with hv1
 subst hv1 hv3
 have rf : ∀ j, W.frozen? ⟨g, j, none⟩ = false := fun j => by
  obtain ⟨cur, hc⟩ := zbp hR.krow (k := g) rfl
  exact zaz hc j
 have HR := zab hR
 have HK := zab hK
 clear hR hK H1 hb H hsl
 go_loopw [5, 6] (fun x y wr => ∃ (k : Nat), k <= 5 /\ k <= q /\ x = int i64 ((2 : Int) ^ k) /\ y = int i64 k /\ wr = W) (fun _ y _ => 5 - (intOf y).toNat)
 case atStart => exact ⟨0, by omega, Nat.zero_le _, by simp, rfl, rfl⟩
 case round =>
  obtain ⟨k, hk5, hkt, rfl, rfl, rfl⟩ := hrel
  obtain ⟨p1, p2⟩ := pow_bd hk5
  by_cases h1 : k < q
  ·have h1' : (k : Int) < q := by omega
   by_cases h2 : k < 5
   ·have h2' : (2 : Int) ^ k < 32 := (pow_lt hk5).2 h2
    have HP : Hid (2 * (2 : Int) ^ k = 2 ^ (k + 1)) := by show 2 * (2 : Int) ^ k = 2 ^ (k + 1); rw [Int.pow_succ]; omega
    obtain ⟨v, hv⟩ : ∃ v, (2 : Int) ^ k = v := ⟨_, rfl⟩
    rw [hv] at HP h2' p1 p2 ⊢
    clear hv
    go_wp2_with fail
    go_roundw
    case rel => exact ⟨k + 1, by omega, by omega, by rw [<- ud HP], by go_num, trivial⟩
    case measure => simp [intOf]; omega
   ·obtain rfl : k = 5 := by omega
    have hP : ((2 : Int) ^ 5) = (restN q : Nat) := by unfold restN; rw [show min q 5 = 5 by omega]; rfl
    have HD := zab (fail_done (ud HR) hx1 (m.now + (restN q : Nat)))
    obtain ⟨v, hv⟩ : ∃ v, (2 : Int) ^ 5 = v := ⟨_, rfl⟩
    rw [hv] at hP ⊢
    rw [<- hP] at HD
    have hv32 : v = 32 := by rw [<- hv]; rfl
    subst hv32
    have HP := zab hP
    clear hv hP p1 p2
    go_wp2_with fail
    go_end0
    refine ⟨rfl, fend (ud HQ) (ud HK) ?_⟩
    rw [<- ud HP]
    exact ud HD
  ·obtain rfl : k = q := by omega
   have hP : ((2 : Int) ^ k) = (restN k : Nat) := by unfold restN; rw [show min k 5 = k by omega]; simp
   rw [hP] at p1 p2 ⊢
   have hd : decide ((k : Int) < k) = false := by simp
   have HD := zab (fail_done (ud HR) hx1 (m.now + (restN k : Nat)))
   go_wp2_with fail
   go_end0
   exact ⟨rfl, fend (ud HQ) (ud HK) (ud HD)⟩
end Go.Proofs.YtpbimdkclnekeaaGreat

namespace Go.Proofs.YtpbimdkclnekeaaGreat
open Go.RowKit Go.Maps Go.Shelf
open Go.ChangeMaps (setBlock)
set_option linter.unusedVariables false
def Tsk.kd (x : Tsk) : Int := if x.rl then 1 else 2
def Tsk.key (x : Tsk) : Jk := ⟨x.kd, x.s⟩
def leasedB (QL : List (Tok × Lse)) (k : Jk) : Bool := QL.any (fun p => decide ((⟨p.2.kd, p.2.s⟩ : Jk) = k))
end Go.Proofs.YtpbimdkclnekeaaGreat

namespace Go.Proofs.YtpbimdkclnekeaaGreat
open Go.RowKit Go.Maps Go.Shelf
set_option linter.unusedVariables false
structure MS where
 now : Int
 L : LV
 Gl : List (Sg × Unit)
 num : Int
 TL : List (Jk × Tsk)
 QL : List (Tok × Lse)
def Lse.job (g : Lse) : Jk := ⟨g.kd, g.s⟩
def Cf.clo (c : Cf) (now : Int) (s : Sg) : Prop := (s.win + 1) * c.width s.t <= now - c.la
def Cf.b (c : Cf) : Nat := ((List.range c.n).find? (fun j : Nat => decide (c.F j = -1))).getD 0
theorem Cf.b_of {c : Cf} (h : ∃ j : Nat, j < c.n /\ c.F j = -1) : c.b < c.n /\ c.F c.b = -1 := by
 obtain ⟨j, hj, e⟩ := h
 unfold Cf.b
 cases hf : (List.range c.n).find? (fun j : Nat => decide (c.F j = -1)) with
 | none => exact absurd (decide_eq_true e) (List.find?_eq_none.1 hf j (List.mem_range.2 hj))
 | some i =>
  have h1 := List.find?_some hf
  exact ⟨List.mem_range.1 (List.mem_of_find?_eq_some hf), of_decide_eq_true h1⟩
structure Cf.fits (c : Cf) : Prop where
 bn : c.b < c.n
 from0 : c.F c.b = -1
 div0 : ∃ q : Int, 1 <= q /\ c.W c.b = c.wi * q
 down : ∀ i : Nat, i < c.n -> -1 <= c.F i /\ c.F i < c.n
 quot : ∀ i : Nat, i < c.n -> ∃ q : Int, 1 <= q /\ c.W i = c.width (c.F i) * q
theorem Cf.clo_mono {c : Cf} {a b : Int} (h : a <= b) {s : Sg} (hs : c.clo a s) : c.clo b s := by unfold Cf.clo at *; omega
structure TskOk (c : Cf) (now : Int) (L : LV) (p : Jk × Tsk) : Prop where
 key : p.1 = p.2.key
 mem : p.2.s ∈ zam L
 clo : c.clo now p.2.s
 roll : p.2.rl = true -> (stL L p.2.s).st = 2
 recl : p.2.rl = false -> (stL L p.2.s).st ≠ 2
 since : 0 <= p.2.since /\ p.2.since <= now
 tries : 0 <= p.2.tries /\ p.2.tries <= p.2.rest /\ p.2.rest <= now + 32
structure LseOk (c : Cf) (ep now num : Int) (TL : List (Jk × Tsk)) (q : Tok × Lse) : Prop where
 job : ∃ x, zbm TL q.2.job = some x /\ x.rest <= now
 ep : q.1.ep = ep
 num : 1 <= q.1.num /\ q.1.num <= num
 til : now < q.2.til /\ q.2.til <= now + c.le
structure SegOk (c : Cf) (now : Int) (L : LV) (Gl : List (Sg × Unit)) : Prop where
 inr : ∀ p ∈ L, inR c p.1
 nl : (zam L).Nodup
 raw : ∀ p ∈ L, p.1.t = -1 -> p.2.st = 1 /\ 1 <= p.2.cl.cnt /\ -(p.2.cl.cnt * 2147483648) <= p.2.cl.sum /\ p.2.cl.sum <= p.2.cl.cnt * 2147483648
 tier : ∀ p ∈ L, 0 <= p.1.t -> p.2.st = 2 \/ p.2.st = 3
 disj : ∀ p ∈ L, p.1 ∉ zaj Gl
 ng : (zaj Gl).Nodup
 pubc : ∀ p ∈ L, p.2.st = 3 -> c.clo now p.1
 goc : ∀ k ∈ zaj Gl, c.clo now k
 above : ∀ p ∈ L, p.1.t = -1 -> (⟨(c.b : Int), p.1.ser, p.1.win * c.wi / c.W c.b⟩ : Sg) ∈ zam L \/ (⟨(c.b : Int), p.1.ser, p.1.win * c.wi / c.W c.b⟩ : Sg) ∈ zaj Gl
 used : zby L <= c.qu
structure MOk (c : Cf) (ep : Int) (m : MS) : Prop where
 now : 0 <= m.now /\ m.now <= 100000
 seg : SegOk c m.now m.L m.Gl
 tasks : ∀ p ∈ m.TL, TskOk c m.now m.L p
 nt : (zaj m.TL).Nodup
 leas : ∀ q ∈ m.QL, LseOk c ep m.now m.num m.TL q
 nq : (zaj m.QL).Nodup
 jobs : (m.QL.map (fun q => q.2.job)).Nodup
 num : 0 <= m.num
section
variable {c : Cf} {now : Int} {L : LV} {Gl : List (Sg × Unit)}
theorem SegOk.use {now : Int} (h : SegOk c now L Gl) : ∀ p ∈ L, 1 <= zfn p.2 := fun p hp => by
 have hr := h.inr p hp
 by_cases ht : p.1.t = -1
 ·obtain ⟨h1, h2, _⟩ := h.raw p hp ht
  unfold zfn; rw [if_pos h1]; exact h2
 ·have := h.tier p hp (by have := hr.2.1; omega)
  unfold zfn; rw [if_neg (by omega)]; omega
theorem sumI_ge : ∀ (l : List Int), (∀ x ∈ l, 1 <= x) -> (l.length : Int) <= zcx l
 | [], _ => by simp [zcx]
 | a :: l, h => by
  have h1 := h a (by simp)
  have h2 := sumI_ge l (fun x hx => h x (by simp [hx]))
  simp only [zcx, List.length_cons]; omega
theorem sumI_mem : ∀ (l : List Int) (a : Int), (∀ x ∈ l, 0 <= x) -> a ∈ l -> a <= zcx l
 | [], _, _, h => by simp at h
 | b :: l, a, h, hm => by
  have h1 := h b (by simp)
  have hs : 0 <= zcx l := by
   clear hm h1
   induction l with
   | nil => simp [zcx]
   | cons x l ih =>
    have := h x (by simp)
    have := ih (fun y hy => h y (by simp at hy ⊢; rcases hy with hy | hy <;> simp [hy]))
    simp only [zcx]; omega
  rcases List.mem_cons.1 hm with rfl | hm
  ·simp only [zcx]; omega
  ·have := sumI_mem l a (fun x hx => h x (by simp [hx])) hm
   simp only [zcx]; omega
theorem SegOk.len (h : SegOk c now L Gl) : (L.length : Int) <= zby L := by
 have := sumI_ge (L.map (fun p => zfn p.2)) (fun x hx => by obtain ⟨p, hp, rfl⟩ := List.mem_map.1 hx; exact h.use p hp)
 simpa [zby] using this
theorem SegOk.len400 (h : SegOk c now L Gl) (hc : c.ok) : L.length <= 400 := by
 have h1 := h.len; have h2 := h.used; have h3 := hc.qu; omega
theorem SegOk.cnt (h : SegOk c now L Gl) (hc : c.ok) : ∀ p ∈ L, p.1.t = -1 -> p.2.cl.cnt <= 400 := fun p hp ht => by
 obtain ⟨h1, h2, _⟩ := h.raw p hp ht
 have h3 : zfn p.2 <= zby L := sumI_mem _ _ (fun x hx => by obtain ⟨q, hq, rfl⟩ := List.mem_map.1 hx; have := h.use q hq; omega) (List.mem_map.2 ⟨p, hp, rfl⟩)
 have h4 : zfn p.2 = p.2.cl.cnt := by unfold zfn; rw [if_pos h1]
 have h5 := h.used; have h6 := hc.qu; omega
theorem SegOk.u0 (h : SegOk c now L Gl) (hc : c.ok) : 0 <= zby L /\ zby L <= 400 := by
 have h1 := h.len; have h2 := h.used; have h3 := hc.qu; omega
theorem SegOk.st (h : SegOk c now L Gl) : ∀ p ∈ L, p.2.st ≠ 0 := fun p hp => by
 have hr := h.inr p hp
 by_cases ht : p.1.t = -1
 ·obtain ⟨h1, _⟩ := h.raw p hp ht; omega
 ·have := h.tier p hp (by have := hr.2.1; omega); omega
end
theorem nodup_le {α : Type} [DecidableEq α] : ∀ (l m : List α), l.Nodup -> (∀ x ∈ l, x ∈ m) -> l.length <= m.length
 | [], _, _, _ => by simp
 | a :: l, m, hn, hs => by
  have ha := hs a (by simp)
  obtain ⟨h1, h2⟩ := List.nodup_cons.1 hn
  have := nodup_le l (m.erase a) h2 (fun x hx => (List.mem_erase_of_ne (fun e => h1 (by rw [<- e]; exact hx))).2 (hs x (by simp [hx])))
  rw [List.length_erase_of_mem ha] at this
  have hp : 0 < m.length := List.length_pos_of_mem ha
  simp only [List.length_cons]; omega
section
variable {c : Cf} {ep : Int} {m : MS}
theorem MOk.tlen (h : MOk c ep m) : m.TL.length <= 2 * m.L.length := by
 have h1 := nodup_le (zaj m.TL) ((zam m.L).map (fun s => (⟨1, s⟩ : Jk)) ++ (zam m.L).map (fun s => (⟨2, s⟩ : Jk))) h.nt (fun k hk => by
  obtain ⟨p, hp, rfl⟩ := List.mem_map.1 (show k ∈ m.TL.map (·.1) from hk)
  have ht := h.tasks p hp
  rw [ht.key]
  cases hr : p.2.rl with
  | true => exact List.mem_append_left _ (List.mem_map.2 ⟨p.2.s, ht.mem, by simp [Tsk.key, Tsk.kd, hr]⟩)
  | false => exact List.mem_append_right _ (List.mem_map.2 ⟨p.2.s, ht.mem, by simp [Tsk.key, Tsk.kd, hr]⟩))
 simp [zaj, zam] at h1
 omega
theorem MOk.qlen (h : MOk c ep m) : m.QL.length <= m.TL.length := by
 have h1 := nodup_le (m.QL.map (fun q => q.2.job)) (zaj m.TL) h.jobs (fun k hk => by
  obtain ⟨q, hq, rfl⟩ := List.mem_map.1 hk
  obtain ⟨x, hx, _⟩ := (h.leas q hq).job
  exact List.mem_map.2 ⟨_, zat hx, rfl⟩)
 simpa [zaj] using h1
theorem MOk.t800 (h : MOk c ep m) (hc : c.ok) : m.TL.length <= 800 := by have := h.tlen; have := h.seg.len400 hc; omega
theorem MOk.q800 (h : MOk c ep m) (hc : c.ok) : m.QL.length <= 800 := by have := h.t800 hc; have := h.qlen; omega
theorem MOk.mem_inR (h : MOk c ep m) {s : Sg} (hs : s ∈ zam m.L) : inR c s := by
 obtain ⟨p, hp, rfl⟩ := List.mem_map.1 (show s ∈ m.L.map (·.1) from hs)
 exact h.seg.inr p hp
theorem MOk.wfk (h : MOk c ep m) : ∀ p ∈ m.TL, p.1.wf := fun p hp => by
 have ht := h.tasks p hp
 rw [ht.key]
 refine ⟨?_, (h.mem_inR ht.mem).1⟩
 unfold Tsk.key Tsk.kd i64B
 dsimp only
 split <;> omega
theorem MOk.binv (h : MOk c ep m) (hc : c.ok) : BInv 1000000 100000 m.TL m.QL := by
 have hq := h.q800 hc
 have hn := h.now
 refine ⟨fun p hp => ?_, fun p hp => ?_, h.wfk, by have := h.t800 hc; omega, h.nt, h.nq⟩
 ·obtain ⟨x, hx, _⟩ := (h.leas p hp).job; exact ⟨x, hx⟩
 ·have := (h.tasks p hp).tries; omega
end
theorem getM_putL {L : LV} (hn : (zam L).Nodup) (s k : Sg) (v : SV) : getL (putL L s v) k = if k = s then some v else getL L k := getM_put (L := L) hn s v k
theorem stL_put {L : LV} (hn : (zam L).Nodup) (s k : Sg) (v : SV) : stL (putL L s v) k = if k = s then v else stL L k := by
 unfold stL; rw [getM_putL hn]; split <;> rfl
theorem stL_of {L : LV} (hn : (zam L).Nodup) {p : Sg × SV} (hp : p ∈ L) : stL L p.1 = p.2 := by
 unfold stL; rw [show getL L p.1 = some p.2 from zcg (L := L) hn hp]; rfl
theorem zbf {L : LV} {s : Sg} (hs : s ∈ zam L) : (s, stL L s) ∈ L := by
 obtain ⟨v, hv, hm⟩ := getL_of hs
 unfold stL; rw [hv]; exact hm
theorem exps_ok {c : Cf} {ep : Int} {now n' : Int} {L : LV} {num : Int} {TL : List (Jk × Tsk)} {QL : List (Tok × Lse)} (hnow : now <= n')
  (ht : ∀ p ∈ TL, TskOk c now L p) (nt : (zaj TL).Nodup) (hl : ∀ q ∈ QL, LseOk c ep now num TL q) (nq : (zaj QL).Nodup) (jobs : (QL.map (fun q => q.2.job)).Nodup)
  {T1 : List (Jk × Tsk)} {Q1 : List (Tok × Lse)} (h : Exps n' TL QL T1 Q1) :
  (∀ p ∈ T1, TskOk c n' L p) /\ (zaj T1).Nodup /\ (zaj Q1).Nodup /\ (Q1.map (fun q => q.2.job)).Nodup /\ (∀ q ∈ Q1, q ∈ QL) /\ (∀ q ∈ QL, n' < q.2.til -> q ∈ Q1) /\ (∀ q ∈ Q1, ∃ x, zbm T1 q.2.job = some x /\ x.rest <= now) /\ (∀ k, k ∈ zaj T1 ↔ k ∈ zaj TL) := by
 induction h with
 | nil =>
  refine ⟨fun p hp => ?_, nt, nq, jobs, fun q h => h, fun q h _ => h, fun q h => (hl q h).job, fun k => Iff.rfl⟩
  have := ht p hp
  exact ⟨this.key, this.mem, Cf.clo_mono hnow this.clo, this.roll, this.recl, ⟨this.since.1, by have := this.since; omega⟩, by have := this.tries; omega⟩
 | @step T1 Q1 t g x _ hg hgt hx ih =>
  obtain ⟨i1, i2, i3, i4, i5, i6, i7, i8⟩ := ih
  have hgm := zat hg
  have hxm := zat hx
  have hjne : ∀ q ∈ zcj Q1 t, q.2.job ≠ g.job := fun q hq e => by
   obtain ⟨hq1, hq2⟩ := zbh.1 hq
   have hpw : Q1.Pairwise (fun a b => a.2.job ≠ b.2.job) := List.pairwise_map.1 i4
   obtain ⟨i, hi, ei⟩ := List.getElem_of_mem hq1
   obtain ⟨j, hj, ej⟩ := List.getElem_of_mem hgm
   rcases Nat.lt_trichotomy i j with hh | hh | hh
   ·have := List.pairwise_iff_getElem.1 hpw i j hi hj hh; rw [ei, ej] at this; exact this e
   ·subst hh; rw [ei] at ej; exact hq2 (by rw [ej])
   ·have := List.pairwise_iff_getElem.1 hpw j i hj hi hh; rw [ei, ej] at this; exact this e.symm
  have hxr : x.rest <= now := by
   obtain ⟨y, hy, hr⟩ := i7 _ hgm
   have : y = x := by have := hy.symm.trans hx; injection this
   rw [<- this]; exact hr
  refine ⟨fun p hp => ?_, zdx i2, zdj i3, ?_, fun q hq => i5 q (zbh.1 hq).1, fun q hq hlt => ?_, fun q hq => ?_, fun k => ?_⟩
  ·rcases mem_putM hp with rfl | ⟨hp, _⟩
   ·have h0 := i1 _ hxm
    have hb := restN_bound (x.tries + 1).toNat
    exact ⟨h0.key, h0.mem, h0.clo, h0.roll, h0.recl, h0.since, by have := h0.tries; simp only [Tsk.failed] at *; omega⟩
   ·exact i1 p hp
  ·unfold zcj
   exact i4.sublist (List.Sublist.map _ (List.filter_sublist))
  ·refine zbh.2 ⟨i6 q hq hlt, fun e => ?_⟩
   have h1 := zcg i3 (i6 q hq hlt)
   rw [e, hg] at h1; injection h1 with h1; rw [<- h1] at hlt; omega
  ·obtain ⟨y, hy, hr⟩ := i7 q (zbh.1 hq).1
   refine ⟨y, ?_, hr⟩
   rw [getM_put i2, if_neg (show ¬ q.2.job = ⟨g.kd, g.s⟩ from hjne q hq)]; exact hy
  ·rw [zbw, i8 k]
   constructor
   ·rintro (h | rfl)
    ·exact h
    ·exact (i8 _).1 (List.mem_map.2 ⟨_, hxm, rfl⟩)
   ·exact .inl
theorem MOk.exps {c : Cf} {ep : Int} {m : MS} (h : MOk c ep m) {n' : Int} (hn : m.now <= n' /\ n' <= 100000) {TL' : List (Jk × Tsk)} {QL' : List (Tok × Lse)} (he : Exps n' m.TL m.QL TL' QL') (hq : ∀ p ∈ QL', n' < p.2.til) :
  MOk c ep { m with now := n', TL := TL', QL := QL' } := by
 obtain ⟨i1, i2, i3, i4, i5, i6, i7, i8⟩ := exps_ok hn.1 h.tasks h.nt h.leas h.nq h.jobs he
 have hs := h.seg
 refine ⟨⟨by have := h.now; show 0 <= n'; omega, hn.2⟩, ⟨hs.inr, hs.nl, hs.raw, hs.tier, hs.disj, hs.ng, fun p hp h3 => Cf.clo_mono hn.1 (hs.pubc p hp h3), fun k hk => Cf.clo_mono hn.1 (hs.goc k hk), hs.above, hs.used⟩, i1, i2, fun q hq' => ?_, i3, i4, h.num⟩
 have h0 := h.leas q (i5 q hq')
 obtain ⟨x, hx, hr⟩ := i7 q hq'
 exact ⟨⟨x, hx, by show x.rest <= n'; omega⟩, h0.ep, h0.num, hq q hq', by have := h0.til; show q.2.til <= n' + c.le; omega⟩
end Go.Proofs.YtpbimdkclnekeaaGreat

namespace Go.Proofs.YtpbimdkclnekeaaGreat
open Go.RowKit Go.Maps Go.Shelf
open Go.ChangeMaps (setBlock)
set_option linter.unusedVariables false
def cmpJ (a b : Int) : Int := if a < b then -1 else if b < a then 1 else 0
def orL : List Int -> Int
 | [] => 0
 | a :: r => if a = 0 then orL r else a
end Go.Proofs.YtpbimdkclnekeaaGreat

namespace Go.Proofs.YtpbimdkclnekeaaGreat
open Value (int)
open IntKind (i64)
open Go.RowKit
set_option linter.unusedVariables false
def expT (now : Int) (x : Tk) : Tk := if 0 <= x.slot /\ x.till <= now then x.fail now else x
def expTo (now : Int) (l : List Tk) (i : Nat) : List Tk := (l.take i).map (expT now) ++ l.drop i
theorem expTo_len (now : Int) (l : List Tk) (i : Nat) : (expTo now l i).length = l.length := by unfold expTo; simp; omega
theorem expTo_all (now : Int) (l : List Tk) : expTo now l l.length = l.map (expT now) := by unfold expTo; simp
theorem expTo_at {now : Int} {l : List Tk} {i : Nat} {x : Tk} (h : l[i]? = some x) : (expTo now l i)[i]? = some x := by
 have hi : i < l.length := (List.getElem?_eq_some_iff.1 h).1
 unfold expTo
 rw [List.getElem?_append_right (by simp; omega)]
 simp only [List.length_map, List.length_take, List.getElem?_drop]
 rw [show i + (i - min i l.length) = i by omega]
 exact h
theorem expTo_succ {now : Int} {l : List Tk} {i : Nat} {x : Tk} (h : l[i]? = some x) : expTo now l (i + 1) = (expTo now l i).set i (expT now x) := by
 obtain ⟨hi, hx⟩ := List.getElem?_eq_some_iff.1 h
 unfold expTo
 rw [List.take_succ_eq_append_getElem hi, hx, List.map_append, List.append_assoc, List.set_append_right _ _ (by simp; omega), List.drop_eq_getElem_cons hi, hx]
 simp only [List.length_map, List.length_take, List.map_cons, List.map_nil]
 rw [show i - min i l.length = 0 by omega]
 simp
theorem expTo_same {now : Int} {l : List Tk} {i : Nat} {x : Tk} (h : l[i]? = some x) (hs : ¬ (0 <= x.slot /\ x.till <= now)) : expTo now l (i + 1) = expTo now l i := by
 rw [expTo_succ h]
 have e : expT now x = x := by unfold expT; rw [if_neg hs]
 rw [e]
 obtain ⟨h1, h2⟩ := List.getElem?_eq_some_iff.1 (expTo_at (now := now) h)
 rw [<- h2]
 exact List.set_getElem_self h1
def RM.tickL (m : RM) (n : Int) : RM × Int := if n < 1 \/ 1000 < n \/ 100000 < m.now + n then (m, 5) else ({ m with now := m.now + n, tasks := m.tasks.map (expT (m.now + n)) }.settled, 0)
theorem tickL_bad {m : RM} {n : Int} (h : n < 1 \/ 1000 < n \/ 100000 < m.now + n) : m.tickL n = (m, 5) := by simp [RM.tickL, h]
theorem tickL_ok {m : RM} {n : Int} (h : ¬ (n < 1 \/ 1000 < n \/ 100000 < m.now + n)) : m.tickL n = ({ m with now := m.now + n, tasks := m.tasks.map (expT (m.now + n)) }.settled, 0) := by unfold RM.tickL; rw [if_neg h]
set_option maxRecDepth 8000 in
set_option maxHeartbeats 4000000 in
theorem rtick_any {B : Nat} {w : World} {p : Nat} {m : RM} {tv nv pv gv kv : Value} (h : zbk B w p m tv nv pv gv kv) (hB : B <= w.heap.size) (hc : m.c.ok) (hnl : m.nums.length <= 1000000000) (hgl : m.gone.length <= 1000000000000) (hpl : m.pub.length <= 1000000000000) (hkl : m.tasks.length <= 1000000000) (hno : ∀ x ∈ m.nums, x.ok) (hnow : 0 <= m.now /\ m.now <= 100000) (htr : ∀ x ∈ m.tasks, 0 <= x.tries /\ x.tries <= 1000000000) (n : Int) (hn : -9223372036854775808 <= n /\ n <= 9223372036854775807) :
  Calls Tryz.prog 153 #[.pointer (some ⟨p, 0, none⟩), int i64 n] w fun e w' => e = .returned (int i64 (m.tickL n).2) /\ ∃ kv', zbk B w' p (m.tickL n).1 tv nv pv gv kv' /\ zan (fun k => k = p \/ kv.ownBlock = some k) w w' /\ ∀ k, kv'.ownBlock = some k -> kv.ownBlock = some k \/ w.heap.size <= k := by
 obtain ⟨hn1, hn2⟩ := hn
 obtain ⟨hw1, hw2⟩ := hnow
 obtain ⟨r7, r8, r9, r10, r11, r12, r13⟩ := h.rest
 have hp := h.lt
 have rf : ∀ j, w.frozen? ⟨p, j, none⟩ = false := fun j => zaz h.head j
 have H := zab h
 have HTR := zab htr
 obtain ⟨ak, ck, hkv⟩ := zah h.krow
 subst hkv
 clear r8 r9 r10 r11 r12 r13 h htr
 by_cases h1 : n < 1
 ·rw [tickL_bad (.inl h1)]
  go_enter Tryz.func153, Tryz.ntmps153
  go_wp2_with fail
  go_ret
  exact ⟨rfl, _, ud H, zan.refl _ _, fun k hk => .inl hk⟩
 by_cases h2 : 1000 < n
 ·rw [tickL_bad (.inr (.inl h2))]
  go_enter Tryz.func153, Tryz.ntmps153
  go_wp2_with fail
  go_ret
  exact ⟨rfl, _, ud H, zan.refl _ _, fun k hk => .inl hk⟩
 by_cases h3 : 100000 < m.now + n
 ·rw [tickL_bad (.inr (.inr h3))]
  go_enter Tryz.func153, Tryz.ntmps153
  go_wp2_with fail
  go_ret
  exact ⟨rfl, _, ud H, zan.refl _ _, fun k hk => .inl hk⟩
 have HT := zab (tickL_ok (m := m) (n := n) (by omega))
 have H1 := zab ((ud H).setNow (m.now + n))
 have HK1 := zab (zag (i := 7) (v := int i64 (m.now + n)) (zan.refl (fun k => k = p \/ (Value.slice ak m.tasks.length ck).ownBlock = some k) w) (.inl rfl))
 rw [ud HT]
 go_enter Tryz.func153, Tryz.ntmps153
 go_wp2_with fail
 generalize (w.setCell ⟨p, 7, none⟩ (int i64 (m.now + n))) = W at *
 clear H r7 rf hp HT
 go_loopw [5] (fun y wr => ∃ (i : Nat), i <= m.tasks.length /\ y = int i64 i /\ zbk B wr p { m with now := m.now + n, tasks := expTo (m.now + n) m.tasks i } tv nv pv gv (.slice ak m.tasks.length ck) /\ zan (fun k => k = p \/ (Value.slice ak m.tasks.length ck).ownBlock = some k) w wr) (fun y _ => m.tasks.length - (intOf y).toNat)
 case atStart => exact ⟨0, Nat.zero_le _, rfl, by simpa [expTo] using ud H1, ud HK1⟩
 case round =>
  obtain ⟨i, hi, rfl, hR, hK⟩ := hrel
  obtain ⟨r7, -, -, -, r11, -, -⟩ := hR.rest
  dsimp only at r7
  have hpr := hR.lt
  have HK := zab hK
  clear hK
  by_cases hil : i < m.tasks.length
  ·obtain ⟨x, hx⟩ := zch hil
   have htx := ud HTR x (List.mem_of_getElem? hx)
   have hkr : wr.ownsRow B 239 11 (.slice ak m.tasks.length ck) (expTo (m.now + n) m.tasks i).length ((expTo (m.now + n) m.tasks i).flatMap tkV) := hR.krow
   obtain ⟨gt, capt, hvt, _, hgtz, -, -, -, -, -, -, -, -, -, y9, y10⟩ := tk_at hkr (expTo_at hx)
   injection hvt with hvt1 hvt2 hvt3
   subst hvt1 hvt3
   have HR := zab hR
   have HX := zab hx
   have hin : (i : Int) < m.tasks.length := by omega
   have hne : Nonempty (zaf wr.heap.size wr) := zaf.some _ _
   have hlc := fun (u : zaf wr.heap.size wr) b o h => u.cell b o h
   clear hx hvt2 hkr hR
   by_cases hs : 0 <= x.slot
   ·by_cases ht : x.till <= m.now + n
    ·have HX2 := zab (expTo_succ (now := m.now + n) (ud HX))
     go_wp2_with fail
     refine zad wr.heap.size (by kernel_rfl) (by kernel_rfl) ?_
     repeat (go_big_quiet_step (fail))
     refine wpQuiet_nil ?_
     rintro ⟨w2, hb2⟩
     dsimp only
     clear hlc hne
     have HB2 := zab ((ud HK).trans (zan.of_below (f := fun _ => False) hb2) (fun _ _ e => e.elim))
     have HR2 := zab ((ud HR).later hb2)
     have hRr := (ud HR).later hb2
     rw [<- expTo_len (m.now + n) m.tasks i] at hRr
     have HF := zab (rfails_any hRr (by rw [expTo_len]; exact hkl) (expTo_at (ud HX)) htx (by dsimp only; omega))
     clear hb2 hRr
     go_wp2_with fail
     refine (ud HF).mono ?_
     rintro e w3 ⟨rfl, hR3, hK3⟩
     rw [expTo_len] at hR3
     have HR3 := zab hR3
     have HK3 := zab ((ud HB2).trans hK3 (fun k _ e => .inr (by rw [e]; rfl)))
     clear hR3 hK3 HF HR2 HB2
     go_wp2_with fail
     go_roundw
     case rel =>
      refine ⟨i + 1, by omega, by go_num, ?_, ud HK3⟩
      have e : expT (m.now + n) x = x.fail (m.now + n) := by unfold expT; rw [if_pos ⟨hs, ht⟩]
      rw [ud HX2, e]
      exact ud HR3
     case measure => simp [intOf]; omega
    ·have htd : decide (x.till <= m.now + n) = false := by simp; omega
     have HSAME := zab (expTo_same (now := m.now + n) (ud HX) (by omega))
     go_wp2_with fail
     refine zad wr.heap.size (by kernel_rfl) (by kernel_rfl) ?_
     repeat (go_big_quiet_step (fail))
     refine wpQuiet_nil ?_
     rintro ⟨w2, hb2⟩
     dsimp only
     clear hlc hne
     have HB2 := zab ((ud HK).trans (zan.of_below (f := fun _ => False) hb2) (fun _ _ e => e.elim))
     have HR2 := zab ((ud HR).later hb2)
     clear hb2
     go_wp2_with fail
     go_roundw
     case rel => exact ⟨i + 1, by omega, by go_num, by rw [ud HSAME]; exact ud HR2, ud HB2⟩
     case measure => simp [intOf]; omega
   ·have hsd : decide (0 <= x.slot) = false := by simp; omega
    have HSAME := zab (expTo_same (now := m.now + n) (ud HX) (by omega))
    go_wp2_with fail
    refine zad wr.heap.size (by kernel_rfl) (by kernel_rfl) ?_
    repeat (go_big_quiet_step (fail))
    refine wpQuiet_nil ?_
    rintro ⟨w2, hb2⟩
    dsimp only
    clear hlc hne
    have HB2 := zab ((ud HK).trans (zan.of_below (f := fun _ => False) hb2) (fun _ _ e => e.elim))
    have HR2 := zab ((ud HR).later hb2)
    clear hb2
    go_wp2_with fail
    go_roundw
    case rel => exact ⟨i + 1, by omega, by go_num, by rw [ud HSAME]; exact ud HR2, ud HB2⟩
    case measure => simp [intOf]; omega
  ·obtain rfl : i = m.tasks.length := by omega
   rw [expTo_all] at hR
   have HSE := zab (settle_any hR (by have := (ud HK).size; omega) hc hnl hgl hpl (by simpa using (by omega : m.tasks.length <= 1000000000000)) hno (by show 0 <= m.now + n /\ m.now + n <= 100000; omega))
   clear hR
   go_wp2_with fail
   refine (ud HSE).mono ?_
   rintro e w3 ⟨rfl, kv', hr3, hk3, hf3⟩
   go_wp2_with fail
   go_ret
   refine ⟨rfl, kv', hr3, (ud HK).trans hk3 (fun _ _ h => .inl h), fun k hk => .inr ?_⟩
   have := hf3 k hk; have := (ud HK).size; omega
end Go.Proofs.YtpbimdkclnekeaaGreat

namespace Go.Proofs.YtpbimdkclnekeaaGreat
set_option linter.unusedVariables false
theorem right_ok {c : Cf} (h : zcd c.s c.le c.la c.wi c.ke c.qu c.n c.F c.W c.K = true) : c.ok := by
 unfold zcd at h
 simp only [Bool.and_eq_true, zdr, allB_iff] at h
 obtain ⟨⟨⟨⟨⟨⟨⟨⟨h1, h2⟩, h3⟩, h4⟩, h5⟩, h6⟩, h7⟩, h8⟩, h9⟩ := h
 have ht : ∀ i, i < c.n -> (-1 <= c.F i /\ c.F i <= (c.n : Int) - 1) /\ (1 <= c.W i /\ c.W i <= 1000) /\ (0 <= c.K i /\ c.K i <= 1000) := fun i hi => by
  have := h8 i hi
  unfold tierB at this
  simp only [Bool.and_eq_true, zdr] at this
  exact ⟨this.1.1, this.1.2, this.2⟩
 exact ⟨by omega, by omega, h4.1, by omega, fun i hi => (ht i hi).2.1, fun i hi => by have := (ht i hi).1; omega, fun i hi => (ht i hi).2.2, h5, h3, h6, h1, h2⟩
structure TiersOk (wi : Int) (k : Nat) (F W K : Nat -> Int) : Prop where
 tF : ∀ i, i < k -> -1 <= F i /\ F i < i
 tW : ∀ i, i < k -> 1 <= W i /\ W i <= 1000
 tQ : ∀ i, i < k -> ∃ q : Int, 1 <= q /\ W i = zbr wi W (F i) * q
 tK : ∀ i, i < k -> 0 <= K i /\ K i <= 1000
theorem down_of {F : Nat -> Int} {n : Nat} (h : ∀ i, i < n -> -1 <= F i /\ F i < i) : ∀ (k : Nat) (t : Int), 0 <= t -> t < n -> t < k -> down F k t = true
 | 0, t, h0, h1, h2 => by omega
 | k + 1, t, h0, h1, h2 => by
  rw [down]
  have hb := h t.toNat (by omega)
  by_cases e : F t.toNat = -1
  ·simp [e]
  ·rw [down_of h k (F t.toNat) (by omega) (by omega) (by omega)]; simp
theorem right_of {c : Cf} (hs : 1 <= c.s /\ c.s <= 4) (hle : 1 <= c.le /\ c.le <= 100) (hla : 0 <= c.la /\ c.la <= 100) (hwi : 1 <= c.wi /\ c.wi <= 50) (hke : 0 <= c.ke /\ c.ke <= 1000) (hqu : 1 <= c.qu /\ c.qu <= 400) (hn : 1 <= c.n /\ c.n <= 4) (h : TiersOk c.wi c.n c.F c.W c.K) :
  zcd c.s c.le c.la c.wi c.ke c.qu c.n c.F c.W c.K = true /\ c.fits := by
 constructor
 ·unfold zcd
  simp only [Bool.and_eq_true, zdr, allB_iff]
  refine ⟨⟨⟨⟨⟨⟨⟨⟨hs, hle⟩, hla⟩, hwi⟩, hke⟩, hqu⟩, by omega⟩, fun i hi => ?_⟩, fun i hi => ?_⟩
  ·unfold tierB
   simp only [Bool.and_eq_true, zdr]
   have := h.tF i hi
   exact ⟨⟨by omega, h.tW i hi⟩, h.tK i hi⟩
  ·unfold fitB
   simp only [Bool.and_eq_true, beq_iff_eq]
   obtain ⟨q, _, hq⟩ := h.tQ i hi
   exact ⟨by rw [hq]; exact Int.mul_emod_right _ _, down_of h.tF c.n i (by omega) (by omega) (by omega)⟩
 ·have h0 := h.tF 0 (by omega)
  obtain ⟨hb, hF⟩ := Cf.b_of (c := c) ⟨0, by omega, by omega⟩
  obtain ⟨q, h1, hq⟩ := h.tQ c.b hb
  exact ⟨hb, hF, ⟨q, h1, by rw [hq, hF]; simp [zbr]⟩, fun i hi => by have := h.tF i hi; omega, h.tQ⟩
theorem down_has {F : Nat -> Int} {n : Nat} (hb : ∀ i, i < n -> -1 <= F i /\ F i < n) : ∀ (k : Nat) (t : Int), 0 <= t -> t < n -> down F k t = true -> ∃ j : Nat, j < n /\ F j = -1
 | 0, t, h0, h1, h => by simp [down] at h
 | k + 1, t, h0, h1, h => by
  rw [down] at h
  have hb' := hb t.toNat (by omega)
  by_cases e : F t.toNat = -1
  ·exact ⟨t.toNat, by omega, e⟩
  ·simp [e] at h
   exact down_has hb k (F t.toNat) (by omega) (by omega) h
theorem right_fits {c : Cf} (h : zcd c.s c.le c.la c.wi c.ke c.qu c.n c.F c.W c.K = true) : c.fits := by
 have hc := right_ok h
 unfold zcd at h
 simp only [Bool.and_eq_true, zdr, allB_iff] at h
 obtain ⟨⟨-, h8⟩, h9⟩ := h
 have hF : ∀ i, i < c.n -> -1 <= c.F i /\ c.F i < c.n := fun i hi => hc.F i hi
 have hfit : ∀ i, i < c.n -> c.W i % zbr c.wi c.W (c.F i) = 0 /\ down c.F c.n i = true := fun i hi => by
  have := h9 i hi
  unfold fitB at this
  simpa only [Bool.and_eq_true, beq_iff_eq] using this
 have hq : ∀ i : Nat, i < c.n -> ∃ q : Int, 1 <= q /\ c.W i = c.width (c.F i) * q := fun i hi => by
  have h1 := (hfit i hi).1
  have h2 := (hc.W i hi).1
  have h3 := (hc.width (hF i hi).1 (hF i hi).2).1
  change c.W i % c.width (c.F i) = 0 at h1
  obtain ⟨q, hq⟩ := Int.dvd_of_emod_eq_zero h1
  refine ⟨q, ?_, hq⟩
  rcases Int.lt_or_le q 1 with hlt | hle
  ·exfalso
   have h4 : c.width (c.F i) * q <= c.width (c.F i) * 0 := Int.mul_le_mul_of_nonneg_left (by omega) (by omega)
   omega
  ·exact hle
 have h0 := hc.n1
 obtain ⟨hb, hFb⟩ := Cf.b_of (c := c) (down_has hF c.n ((0 : Nat) : Int) (by omega) (by omega) (hfit 0 (by omega)).2)
 obtain ⟨q, h1, hqb⟩ := hq c.b hb
 refine ⟨hb, hFb, ⟨q, h1, ?_⟩, hF, hq⟩
 rw [hqb, hFb]; unfold Cf.width zbr; rw [if_pos rfl]
end Go.Proofs.YtpbimdkclnekeaaGreat

namespace Go.Proofs.YtpbimdkclnekeaaGreat
open Go.RowKit Go.Maps Go.Shelf
set_option linter.unusedVariables false
def zeg (now : Int) (TL : List (Jk × Tsk)) (s : Sg) : List (Jk × Tsk) := match zbm TL ⟨1, s⟩ with | some _ => TL | none => zer TL ⟨1, s⟩ ⟨true, s, now, 0, 0⟩
def zfj (now : Int) (TL : List (Jk × Tsk)) (s : Sg) : List (Jk × Tsk) := match zbm TL ⟨2, s⟩ with | some _ => TL | none => zer TL ⟨2, s⟩ ⟨false, s, now, 0, 0⟩
section
variable {c : Cf} {now : Int} {L : LV}
structure PostOk (c : Cf) (now : Int) (L : LV) (TL T1 : List (Jk × Tsk)) : Prop where
 ok : ∀ p ∈ T1, TskOk c now L p
 nt : (zaj T1).Nodup
 old : ∀ k x, zbm TL k = some x -> zbm T1 k = some x
theorem post_put {TL T1 : List (Jk × Tsk)} (h : PostOk c now L TL T1) (hn : 0 <= now) {k : Jk} {x : Tsk} (hk : zbm T1 k = none) (hx : TskOk c now L (k, x)) : PostOk c now L TL (zer T1 k x) := by
 refine ⟨fun p hp => ?_, zdx h.nt, fun j y hj => ?_⟩
 ·rcases mem_putM hp with rfl | ⟨hp, _⟩
  ·exact hx
  ·exact h.ok p hp
 ·have := h.old j y hj
  rw [getM_put h.nt, if_neg (fun e => by rw [e, hk] at this; cases this)]; exact this
theorem postR_ok {TL T1 : List (Jk × Tsk)} (h : PostOk c now L TL T1) (hn : 0 <= now) {s : Sg} (h1 : s ∈ zam L) (h2 : c.clo now s) (h3 : (stL L s).st = 2) : PostOk c now L TL (zeg now T1 s) /\ ∀ k, k ∈ zaj (zeg now T1 s) ↔ k ∈ zaj T1 \/ k = ⟨1, s⟩ := by
 unfold zeg
 cases hg : zbm T1 ⟨1, s⟩ with
 | some x => exact ⟨h, fun k => ⟨.inl, fun e => e.elim id (fun e => by rw [e]; exact List.mem_map.2 ⟨_, zat hg, rfl⟩)⟩⟩
 | none => exact ⟨post_put h hn hg ⟨rfl, h1, h2, fun _ => h3, fun e => by simp at e, ⟨hn, Int.le_refl _⟩, by dsimp only; omega⟩, fun k => zbw⟩
theorem postC_ok {TL T1 : List (Jk × Tsk)} (h : PostOk c now L TL T1) (hn : 0 <= now) {s : Sg} (h1 : s ∈ zam L) (h2 : c.clo now s) (h3 : (stL L s).st ≠ 2) : PostOk c now L TL (zfj now T1 s) /\ ∀ k, k ∈ zaj (zfj now T1 s) ↔ k ∈ zaj T1 \/ k = ⟨2, s⟩ := by
 unfold zfj
 cases hg : zbm T1 ⟨2, s⟩ with
 | some x => exact ⟨h, fun k => ⟨.inl, fun e => e.elim id (fun e => by rw [e]; exact List.mem_map.2 ⟨_, zat hg, rfl⟩)⟩⟩
 | none => exact ⟨post_put h hn hg ⟨rfl, h1, h2, fun e => by simp at e, fun _ => h3, ⟨hn, Int.le_refl _⟩, by dsimp only; omega⟩, fun k => zbw⟩
theorem postRs_ok (hn : 0 <= now) : ∀ (ys : List Sg) {TL T1 : List (Jk × Tsk)}, PostOk c now L TL T1 -> (∀ s ∈ ys, s ∈ zam L /\ c.clo now s /\ (stL L s).st = 2) -> PostOk c now L TL (ys.foldl (zeg now) T1) /\ ∀ k, k ∈ zaj (ys.foldl (zeg now) T1) ↔ k ∈ zaj T1 \/ ∃ s ∈ ys, k = ⟨1, s⟩
 | [], TL, T1, h, _ => ⟨h, fun k => by simp⟩
 | s :: ys, TL, T1, h, hs => by
  obtain ⟨a1, a2, a3⟩ := hs s (by simp)
  obtain ⟨h1, h2⟩ := postR_ok h hn a1 a2 a3
  obtain ⟨h3, h4⟩ := postRs_ok hn ys h1 (fun x hx => hs x (by simp [hx]))
  refine ⟨h3, fun k => ?_⟩
  show k ∈ zaj (ys.foldl (zeg now) (zeg now T1 s)) ↔ _
  rw [h4 k, h2 k]; simp [or_assoc]
theorem postCs_ok (hn : 0 <= now) : ∀ (ys : List Sg) {TL T1 : List (Jk × Tsk)}, PostOk c now L TL T1 -> (∀ s ∈ ys, s ∈ zam L /\ c.clo now s /\ (stL L s).st ≠ 2) -> PostOk c now L TL (ys.foldl (zfj now) T1) /\ ∀ k, k ∈ zaj (ys.foldl (zfj now) T1) ↔ k ∈ zaj T1 \/ ∃ s ∈ ys, k = ⟨2, s⟩
 | [], TL, T1, h, _ => ⟨h, fun k => by simp⟩
 | s :: ys, TL, T1, h, hs => by
  obtain ⟨a1, a2, a3⟩ := hs s (by simp)
  obtain ⟨h1, h2⟩ := postC_ok h hn a1 a2 a3
  obtain ⟨h3, h4⟩ := postCs_ok hn ys h1 (fun x hx => hs x (by simp [hx]))
  refine ⟨h3, fun k => ?_⟩
  show k ∈ zaj (ys.foldl (zfj now) (zfj now T1 s)) ↔ _
  rw [h4 k, h2 k]; simp [or_assoc]
end
theorem clo_raw {c : Cf} (hc : c.ok) (hf : c.fits) {now : Int} {k : Sg} (ht : k.t = -1) (h : c.clo now ⟨(c.b : Int), k.ser, k.win * c.wi / c.W c.b⟩) : c.clo now k := by
 obtain ⟨q, hq, hW⟩ := hf.div0
 have hwi := hc.wi1
 have hw0 : c.width (c.b : Int) = c.W c.b := by unfold Cf.width zbr; rw [if_neg (by omega)]; simp
 have hw1 : c.width (-1) = c.wi := by unfold Cf.width zbr; rw [if_pos rfl]
 unfold Cf.clo at *
 rw [hw0] at h
 rw [ht, hw1]
 have hWp : 0 < c.W c.b := by rw [hW]; exact Int.mul_pos (by omega) (by omega)
 have h1 : k.win * c.wi < (k.win * c.wi / c.W c.b + 1) * c.W c.b := Int.lt_ediv_add_one_mul_self _ hWp
 generalize k.win * c.wi / c.W c.b = a at *
 have h2 : k.win * c.wi < ((a + 1) * q) * c.wi := by
  have e : (a + 1) * c.W c.b = ((a + 1) * q) * c.wi := by rw [hW, Int.mul_comm c.wi q, <- Int.mul_assoc]
  rw [<- e]; exact h1
 have h3 : k.win < (a + 1) * q := Int.lt_of_mul_lt_mul_right h2 (by omega)
 have h4 : (k.win + 1) * c.wi <= ((a + 1) * q) * c.wi := Int.mul_le_mul_of_nonneg_right (by omega) (by omega)
 have e : (a + 1) * c.W c.b = ((a + 1) * q) * c.wi := by rw [hW, Int.mul_comm c.wi q, <- Int.mul_assoc]
 rw [e] at h; omega
theorem recl_clo {c : Cf} (hc : c.ok) (hf : c.fits) {now : Int} {L : LV} {Gl : List (Sg × Unit)} (h : SegOk c now L Gl) {k : Sg} (hk : k ∈ zam L) (hr : reclB c L now k = true) : c.clo now k /\ (stL L k).st ≠ 2 := by
 have hp := zbf hk
 have hin := h.inr _ hp
 unfold reclB at hr
 simp only [Bool.and_eq_true, Bool.not_eq_true', beq_eq_false_iff_ne, ne_eq, decide_eq_true_eq] at hr
 obtain ⟨⟨h2, h3⟩, h4⟩ := hr
 refine ⟨?_, h2⟩
 by_cases ht : k.t = -1
 ·have hn1 := hc.n1
  have hA : (⟨(c.b : Int), k.ser, k.win * c.wi / c.W c.b⟩ : Sg) ∈ hangL c k := by
   have hw1 : c.width k.t = c.wi := by rw [ht]; unfold Cf.width zbr; rw [if_pos rfl]
   unfold hangL aboL
   rw [hw1, List.map_map]
   exact List.mem_map.2 ⟨c.b, List.mem_filter.2 ⟨by simpa using hf.bn, by simp [hf.from0, ht]⟩, rfl⟩
  have hcA : c.clo now ⟨(c.b : Int), k.ser, k.win * c.wi / c.W c.b⟩ := by
   rcases h.above _ hp ht with ha | ha
   ·have hAp := zbf ha
    rcases h.tier _ hAp (by show (0 : Int) <= (c.b : Int); omega) with hs | hs
    ·exfalso
     unfold hangsB at h4
     have h5 : ((hangW c k).filter (fun x => (stL L x.1).st == 2)).length = 0 := by
      have := of_decide_eq_true (show decide ((((hangW c k).filter (fun x => (stL L x.1).st == 2)).length : Int) = 0) = true from by simpa using h4)
      omega
     have hm := (hangW_mem hc hin ⟨(c.b : Int), k.ser, k.win * c.wi / c.W c.b⟩).2 hA
     obtain ⟨y, hy, ey⟩ := List.mem_map.1 hm
     have : y ∈ (hangW c k).filter (fun x => (stL L x.1).st == 2) := List.mem_filter.2 ⟨hy, by rw [ey]; simpa using hs⟩
     rw [List.eq_nil_of_length_eq_zero h5] at this; simp at this
    ·exact h.pubc _ hAp hs
   ·exact h.goc _ ha
  exact clo_raw hc hf ht hcA
 ·rcases h.tier _ hp (by have h1 : -1 <= k.t := hin.2.1; show 0 <= k.t; omega) with hs | hs
  ·exact absurd hs h2
  ·exact h.pubc _ hp hs
theorem roll_clo {c : Cf} {now : Int} {L : LV} {Bs : List (Sg × Unit)} {k : Sg} (hr : rollB c Bs L now k = true) : c.clo now k /\ (stL L k).st = 2 := by
 unfold rollB at hr
 simp only [Bool.and_eq_true, beq_iff_eq, decide_eq_true_eq] at hr
 exact ⟨hr.2, hr.1.2⟩
structure zev (c : Cf) (m : MS) (TL' : List (Jk × Tsk)) : Prop where
 to : ∃ (Bs : List (Sg × Unit)) (ys1 ys2 : List Sg), (∀ x, x ∈ zaj Bs ↔ ∃ k, k ∈ zam m.L /\ (stL m.L k).st = 2 /\ x ∈ hangL c k) /\ (∀ s, s ∈ ys1 ↔ s ∈ zam m.L /\ rollB c Bs m.L m.now s = true) /\ (∀ s, s ∈ ys2 ↔ s ∈ zam m.L /\ reclB c m.L m.now s = true) /\ TL' = ys2.foldl (zfj m.now) (ys1.foldl (zeg m.now) m.TL)
theorem MOk.post {c : Cf} {ep : Int} {m : MS} (hc : c.ok) (hf : c.fits) (h : MOk c ep m) {TL' : List (Jk × Tsk)} (hp : zev c m TL') :
  MOk c ep { m with TL := TL' } /\ (∀ k, k ∈ zaj m.TL -> k ∈ zaj TL') /\ (∀ s, s ∈ zam m.L -> reclB c m.L m.now s = true -> (⟨2, s⟩ : Jk) ∈ zaj TL') := by
 obtain ⟨Bs, ys1, ys2, hB, h1, h2, rfl⟩ := hp.to
 have h0 : PostOk c m.now m.L m.TL m.TL := ⟨h.tasks, h.nt, fun _ _ e => e⟩
 obtain ⟨p1, q1⟩ := postRs_ok h.now.1 ys1 h0 (fun s hs => ⟨((h1 s).1 hs).1, roll_clo ((h1 s).1 hs).2⟩)
 obtain ⟨p2, q2⟩ := postCs_ok h.now.1 ys2 p1 (fun s hs => ⟨((h2 s).1 hs).1, recl_clo hc hf h.seg ((h2 s).1 hs).1 ((h2 s).1 hs).2⟩)
 refine ⟨⟨h.now, h.seg, p2.ok, p2.nt, fun q hq => ?_, h.nq, h.jobs, h.num⟩, fun k hk => (q2 k).2 (.inl ((q1 k).2 (.inl hk))), fun s hs hr => (q2 _).2 (.inr ⟨s, (h2 s).2 ⟨hs, hr⟩, rfl⟩)⟩
 have h5 := h.leas q hq
 obtain ⟨x, hx, hr⟩ := h5.job
 exact ⟨⟨x, p2.old _ _ hx, hr⟩, h5.ep, h5.num, h5.til⟩
section
variable {c : Cf} {ep : Int} {m : MS}
theorem job_once {QL : List (Tok × Lse)} (hn : (QL.map (fun q => q.2.job)).Nodup) {p q : Tok × Lse} (hp : p ∈ QL) (hq : q ∈ QL) (e : p.2.job = q.2.job) : p = q := by
 have hpw : QL.Pairwise (fun a b => a.2.job ≠ b.2.job) := List.pairwise_map.1 hn
 obtain ⟨i, hi, ei⟩ := List.getElem_of_mem hp
 obtain ⟨j, hj, ej⟩ := List.getElem_of_mem hq
 rcases Nat.lt_trichotomy i j with hh | hh | hh
 ·have := List.pairwise_iff_getElem.1 hpw i j hi hj hh; rw [ei, ej] at this; exact absurd e this
 ·subst hh; rw [<- ei, ej]
 ·have := List.pairwise_iff_getElem.1 hpw j i hj hi hh; rw [ei, ej] at this; exact absurd e.symm this
theorem jobs_del {QL : List (Tok × Lse)} (hn : (QL.map (fun q => q.2.job)).Nodup) (t : Tok) : ((zcj QL t).map (fun q => q.2.job)).Nodup := by
 unfold zcj
 exact hn.sublist (List.Sublist.map _ (List.filter_sublist))
theorem job_other {QL : List (Tok × Lse)} (hn : (QL.map (fun q => q.2.job)).Nodup) {t : Tok} {g : Lse} (hg : (t, g) ∈ QL) {q : Tok × Lse} (hq : q ∈ zcj QL t) : q.2.job ≠ g.job := fun e => by
 obtain ⟨h1, h2⟩ := zbh.1 hq
 exact h2 (by rw [job_once hn h1 hg e])
theorem MOk.failed (h : MOk c ep m) {t : Tok} {g : Lse} {x : Tsk} (hg : zbm m.QL t = some g) (hx : zbm m.TL g.job = some x) :
  MOk c ep { m with TL := zer m.TL g.job (x.failed m.now), QL := zcj m.QL t } := by
 have hgm := zat hg
 have hxm := zat hx
 have hxr : x.rest <= m.now := by
  obtain ⟨y, hy, hr⟩ := (h.leas _ hgm).job
  have : y = x := by have := hy.symm.trans hx; injection this
  rw [<- this]; exact hr
 have hb := restN_bound (x.tries + 1).toNat
 have h0 := h.tasks _ hxm
 refine ⟨h.now, h.seg, fun p hp => ?_, zdx h.nt, fun q hq => ?_, zdj h.nq, jobs_del h.jobs t, h.num⟩
 ·rcases mem_putM hp with rfl | ⟨hp, _⟩
  ·exact ⟨h0.key, h0.mem, h0.clo, h0.roll, h0.recl, h0.since, by have := h0.tries; simp only [Tsk.failed] at *; omega⟩
  ·exact h.tasks p hp
 ·have h5 := h.leas q (zbh.1 hq).1
  obtain ⟨y, hy, hr⟩ := h5.job
  refine ⟨⟨y, ?_, hr⟩, h5.ep, h5.num, h5.til⟩
  rw [getM_put h.nt, if_neg (job_other h.jobs hgm hq)]; exact hy
theorem MOk.picked (h : MOk c ep m) (hc : c.ok) {k : Jk} {x : Tsk} (hx : zbm m.TL k = some x) (hr : x.rest <= m.now) (hl : leasedB m.QL x.key = false) (slot : Int) :
  MOk c ep { m with num := m.num + 1, QL := zer m.QL ⟨ep, m.num + 1⟩ ⟨x.kd, x.s, slot, m.now + c.le⟩ } /\ (⟨ep, m.num + 1⟩ : Tok) ∉ zaj m.QL /\ (∀ q ∈ m.QL, q.2.job ≠ x.key) := by
 have hnew : (⟨ep, m.num + 1⟩ : Tok) ∉ zaj m.QL := fun hm => by
  obtain ⟨q, hq, e⟩ := List.mem_map.1 hm
  have := (h.leas q hq).num
  rw [e] at this; dsimp only at this; omega
 have hno : ∀ q ∈ m.QL, q.2.job ≠ x.key := fun q hq e => by
  unfold leasedB at hl
  rw [List.any_eq_false] at hl
  exact hl q hq (by simpa [Lse.job] using e)
 have hput : zer m.QL ⟨ep, m.num + 1⟩ ⟨x.kd, x.s, slot, m.now + c.le⟩ = m.QL ++ [(⟨ep, m.num + 1⟩, ⟨x.kd, x.s, slot, m.now + c.le⟩)] := by unfold zer; rw [if_neg hnew]
 have hk := (h.tasks _ (zat hx)).key
 have hle := hc.le
 refine ⟨⟨h.now, h.seg, h.tasks, h.nt, fun q hq => ?_, zdx h.nq, ?_, by have := h.num; show 0 <= m.num + 1; omega⟩, hnew, hno⟩
 ·rcases mem_putM hq with rfl | ⟨hq, _⟩
  ·refine ⟨⟨x, ?_, hr⟩, rfl, ⟨by have := h.num; show 1 <= m.num + 1; omega, Int.le_refl _⟩, by show m.now < m.now + c.le; omega, Int.le_refl _⟩
   show zbm m.TL x.key = some x
   rw [<- hk]; exact hx
  ·have h5 := h.leas q hq
   exact ⟨h5.job, h5.ep, ⟨h5.num.1, by have := h5.num.2; show q.1.num <= m.num + 1; omega⟩, h5.til⟩
 ·show ((zer m.QL ⟨ep, m.num + 1⟩ ⟨x.kd, x.s, slot, m.now + c.le⟩).map (fun q => q.2.job)).Nodup
  rw [hput, List.map_append, List.nodup_append]
  refine ⟨h.jobs, by simp, fun a ha b hb => ?_⟩
  obtain ⟨q, hq, rfl⟩ := List.mem_map.1 ha
  simp only [List.map_cons, List.map_nil, List.mem_singleton] at hb
  subst hb
  exact hno q hq
theorem MOk.other_seg (h : MOk c ep m) {k : Jk} {x : Tsk} (hx : zbm m.TL k = some x) {p : Jk × Tsk} (hp : p ∈ zcj m.TL k) : p.2.s ≠ x.s := fun e => by
 obtain ⟨hp1, hp2⟩ := zbh.1 hp
 have h1 := h.tasks p hp1
 have h2 := h.tasks _ (zat hx)
 have hk2 : k = x.key := h2.key
 cases hr : p.2.rl with
 | true =>
  have a := h1.roll hr
  rw [e] at a
  cases hs : x.rl with
  | true => exact hp2 (by rw [h1.key, hk2]; simp [Tsk.key, Tsk.kd, hr, hs, e])
  | false => exact h2.recl hs a
 | false =>
  have a := h1.recl hr
  rw [e] at a
  cases hs : x.rl with
  | true => exact a (h2.roll hs)
  | false => exact hp2 (by rw [h1.key, hk2]; simp [Tsk.key, Tsk.kd, hr, hs, e])
theorem MOk.done_leas (h : MOk c ep m) {t : Tok} {g : Lse} (hg : zbm m.QL t = some g) : ∀ q ∈ zcj m.QL t, LseOk c ep m.now m.num (zcj m.TL g.job) q := fun q hq => by
 have h5 := h.leas q (zbh.1 hq).1
 obtain ⟨y, hy, hr⟩ := h5.job
 refine ⟨⟨y, ?_, hr⟩, h5.ep, h5.num, h5.til⟩
 rw [getM_del h.nt, if_neg (job_other h.jobs (zat hg) hq)]; exact hy
theorem sum_put_at {L : LV} (hn : (zam L).Nodup) {s : Sg} {u v : SV} (hs : (s, u) ∈ L) (f : SV -> Int) : zcx ((putL L s v).map (fun p => f p.2)) = zcx (L.map (fun p => f p.2)) - f u + f v := by
 unfold putL
 rw [if_pos (show s ∈ zam L from List.mem_map.2 ⟨_, hs, rfl⟩)]
 exact sum_put_old f hn hs
theorem sum_del {s : Sg} {u : SV} (f : SV -> Int) : ∀ {L : LV}, (zam L).Nodup -> (s, u) ∈ L -> zcx ((zcj L s).map (fun p => f p.2)) = zcx (L.map (fun p => f p.2)) - f u
 | [], _, h => by simp at h
 | p :: L, hn, h => by
  obtain ⟨h1, h2⟩ := List.nodup_cons.1 (show (p.1 :: zam L).Nodup from hn)
  rcases List.mem_cons.1 h with rfl | h
  ·have e : zcj ((s, u) :: L) s = L := by
    unfold zcj
    rw [List.filter_cons, if_neg (by simp)]
    refine List.filter_eq_self.2 (fun q hq => ?_)
    simp only [decide_eq_true_eq]
    exact fun e => h1 (List.mem_map.2 ⟨q, hq, e⟩)
   rw [e]; simp only [List.map_cons, zcx]; omega
  ·have hne : p.1 ≠ s := fun e => h1 (List.mem_map.2 ⟨_, h, e.symm⟩)
   have e : zcj (p :: L) s = p :: zcj L s := by unfold zcj; rw [List.filter_cons, if_pos (by simpa using hne)]
   have ih := sum_del f h2 h
   rw [e]; simp only [List.map_cons, zcx, ih]; omega
theorem MOk.rolled (h : MOk c ep m) {t : Tok} {g : Lse} {x : Tsk} (hg : zbm m.QL t = some g) (hx : zbm m.TL g.job = some x) (hr : x.rl = true) (cl : Cl) :
  MOk c ep { m with L := putL m.L x.s ⟨3, cl⟩, TL := zcj m.TL g.job, QL := zcj m.QL t } /\ (∀ f : SV -> Int, zcx ((putL m.L x.s ⟨3, cl⟩).map (fun p => f p.2)) = zcx (m.L.map (fun p => f p.2)) - f (stL m.L x.s) + f ⟨3, cl⟩) /\ (stL m.L x.s).st = 2 /\ x.s ∈ zam m.L := by
 have h2 := h.tasks _ (zat hx)
 have hm : (x.s, stL m.L x.s) ∈ m.L := zbf h2.mem
 have hst : (stL m.L x.s).st = 2 := h2.roll hr
 have hsum := fun f : SV -> Int => sum_put_at (v := ⟨3, cl⟩) h.seg.nl hm f
 have hs := h.seg
 have hnr : x.s.t ≠ -1 := fun e => by have h9 : (stL m.L x.s).st = 1 := (hs.raw _ hm e).1; omega
 have hkeys : ∀ k, k ∈ zam (putL m.L x.s ⟨3, cl⟩) ↔ k ∈ zam m.L := fun k => by
  rw [zcw]; exact ⟨fun e => e.elim id (fun e => e ▸ h2.mem), .inl⟩
 refine ⟨⟨h.now, ⟨fun p hp => ?_, nodup_putL hs.nl, fun p hp ht => ?_, fun p hp ht => ?_, fun p hp => ?_, hs.ng, fun p hp h3 => ?_, hs.goc, fun p hp ht => ?_, ?_⟩, fun p hp => ?_, zdj h.nt, h.done_leas hg, zdj h.nq, jobs_del h.jobs t, h.num⟩, hsum, hst, h2.mem⟩
 ·rcases zde hp with rfl | ⟨hp, _⟩
  ·exact (show inR c x.s from hs.inr _ hm)
  ·exact hs.inr p hp
 ·rcases zde hp with rfl | ⟨hp, _⟩
  ·exact absurd ht hnr
  ·exact hs.raw p hp ht
 ·rcases zde hp with rfl | ⟨hp, _⟩
  ·exact .inr rfl
  ·exact hs.tier p hp ht
 ·rcases zde hp with rfl | ⟨hp, _⟩
  ·exact (show x.s ∉ zaj m.Gl from hs.disj _ hm)
  ·exact hs.disj p hp
 ·rcases zde hp with rfl | ⟨hp, _⟩
  ·exact h2.clo
  ·exact hs.pubc p hp h3
 ·rcases zde hp with rfl | ⟨hp, _⟩
  ·exact absurd ht hnr
  ·rcases hs.above p hp ht with ha | ha
   ·exact .inl ((hkeys _).2 ha)
   ·exact .inr ha
 ·have := hsum zfn
  have hu : zfn (stL m.L x.s) = 2 := by unfold zfn; rw [if_neg (by omega)]
  have hu2 : zfn ⟨3, cl⟩ = 2 := by unfold zfn; rw [if_neg (by dsimp only; omega)]
  have := hs.used
  show zby (putL m.L x.s ⟨3, cl⟩) <= c.qu
  unfold zby at *; omega
 ·have hne := h.other_seg hx hp
  have h1 := h.tasks p (zbh.1 hp).1
  have hst2 : stL (putL m.L x.s ⟨3, cl⟩) p.2.s = stL m.L p.2.s := by rw [stL_put hs.nl, if_neg hne]
  exact ⟨h1.key, (hkeys _).2 h1.mem, h1.clo, fun e => by show (stL (putL m.L x.s ⟨3, cl⟩) p.2.s).st = 2; rw [hst2]; exact h1.roll e, fun e => by show (stL (putL m.L x.s ⟨3, cl⟩) p.2.s).st ≠ 2; rw [hst2]; exact h1.recl e, h1.since, h1.tries⟩
theorem MOk.reclaimed (h : MOk c ep m) {t : Tok} {g : Lse} {x : Tsk} (hg : zbm m.QL t = some g) (hx : zbm m.TL g.job = some x) (hr : x.rl = false) :
  MOk c ep { m with L := zcj m.L x.s, Gl := zer m.Gl x.s (), TL := zcj m.TL g.job, QL := zcj m.QL t } /\ (∀ f : SV -> Int, zcx ((zcj m.L x.s).map (fun p => f p.2)) = zcx (m.L.map (fun p => f p.2)) - f (stL m.L x.s)) /\ (stL m.L x.s).st ≠ 2 /\ x.s ∈ zam m.L /\ (zer m.Gl x.s ()).length = m.Gl.length + 1 := by
 have h2 := h.tasks _ (zat hx)
 have hm : (x.s, stL m.L x.s) ∈ m.L := zbf h2.mem
 have hst : (stL m.L x.s).st ≠ 2 := h2.recl hr
 have hsum := fun f : SV -> Int => sum_del f h.seg.nl hm
 have hs := h.seg
 have hng : x.s ∉ zaj m.Gl := hs.disj _ hm
 have hsub : ∀ p, p ∈ zcj m.L x.s -> p ∈ m.L /\ p.1 ≠ x.s := fun p hp => zbh.1 hp
 have hkeys : ∀ k, k ∈ zam m.L -> k ≠ x.s -> k ∈ zam (zcj m.L x.s) := fun k hk hne => by
  obtain ⟨p, hp, rfl⟩ := List.mem_map.1 (show k ∈ m.L.map (·.1) from hk)
  exact List.mem_map.2 ⟨p, zbh.2 ⟨hp, hne⟩, rfl⟩
 have hstd : ∀ k, k ≠ x.s -> stL (zcj m.L x.s) k = stL m.L k := fun k hne => by
  unfold stL
  rw [show getL (zcj m.L x.s) k = getL m.L k from by
   have := getM_del (L := m.L) hs.nl x.s k
   rw [if_neg hne] at this; exact this]
 refine ⟨⟨h.now, ⟨fun p hp => hs.inr p (hsub p hp).1, zdj (L := m.L) hs.nl, fun p hp => hs.raw p (hsub p hp).1, fun p hp => hs.tier p (hsub p hp).1, fun p hp => ?_, zdx hs.ng, fun p hp => hs.pubc p (hsub p hp).1, fun k hk => ?_, fun p hp ht => ?_, ?_⟩, fun p hp => ?_, zdj h.nt, h.done_leas hg, zdj h.nq, jobs_del h.jobs t, h.num⟩, hsum, hst, h2.mem, ?_⟩
 ·intro hk
  rcases zbw.1 hk with hk | hk
  ·exact hs.disj p (hsub p hp).1 hk
  ·exact (hsub p hp).2 hk
 ·rcases zbw.1 hk with hk | rfl
  ·exact hs.goc k hk
  ·exact h2.clo
 ·rcases hs.above p (hsub p hp).1 ht with ha | ha
  ·by_cases e : (⟨(c.b : Int), p.1.ser, p.1.win * c.wi / c.W c.b⟩ : Sg) = x.s
   ·exact .inr (zbw.2 (.inr e))
   ·exact .inl (hkeys _ ha e)
  ·exact .inr (zbw.2 (.inl ha))
 ·have h3 := hsum zfn
  have h4 := hs.use _ hm
  have := hs.used
  show zby (zcj m.L x.s) <= c.qu
  unfold zby at *; dsimp only at h4; omega
 ·have hne := h.other_seg hx hp
  have h1 := h.tasks p (zbh.1 hp).1
  have hst2 := hstd p.2.s hne
  exact ⟨h1.key, hkeys _ h1.mem hne, h1.clo, fun e => by show (stL (zcj m.L x.s) p.2.s).st = 2; rw [hst2]; exact h1.roll e, fun e => by show (stL (zcj m.L x.s) p.2.s).st ≠ 2; rw [hst2]; exact h1.recl e, h1.since, h1.tries⟩
 ·rw [length_putM, if_neg hng]
end
end Go.Proofs.YtpbimdkclnekeaaGreat

namespace Go.Proofs.YtpbimdkclnekeaaGreat
open Value (int)
open IntKind (i64)
open Go.RowKit Go.Maps Go.Shelf
open Go.ChangeMaps (setBlock)
set_option linter.unusedVariables false
theorem bnew_at (w : World) (o : Obj) (c : Cf) (tv : Value) (ep : Int) :
  zbq ((((w.alloc o).alloc (.map #[] 0)).alloc (.map #[] 0)).alloc (.cells #[int i64 c.s, int i64 c.le, int i64 c.la, int i64 c.wi, int i64 c.ke, int i64 c.qu, tv, int i64 ep, int i64 0, .map (some (w.heap.size + 1)), .map (some (w.heap.size + 1 + 1))] 156)) (w.heap.size + 1 + 1 + 1) c tv ep 0 (w.heap.size + 1) (w.heap.size + 1 + 1) [] [] := by
 have z1 := zbd w o
 have z2 := zbd (w.alloc o) (.map #[] 0)
 have z3 := zbd ((w.alloc o).alloc (.map #[] 0)) (.map #[] 0)
 refine ⟨?_, ?_, ?_, by omega⟩
 ·have h := zap (((w.alloc o).alloc (.map #[] 0)).alloc (.map #[] 0)) (.cells #[int i64 c.s, int i64 c.le, int i64 c.la, int i64 c.wi, int i64 c.ke, int i64 c.qu, tv, int i64 ep, int i64 0, .map (some (w.heap.size + 1)), .map (some (w.heap.size + 1 + 1))] 156)
  rw [z3, z2, z1] at h
  exact h
 ·have h := zce.made (M := tasksM) (w.alloc o)
  rw [z1] at h
  exact (h.later ((Below.refl _ _).alloc (Nat.le_refl _) _)).later ((Below.refl _ _).alloc (Nat.le_refl _) _)
 ·have h := zce.made (M := zfh) ((w.alloc o).alloc (.map #[] 0))
  rw [z2, z1] at h
  exact h.later ((Below.refl _ _).alloc (Nat.le_refl _) _)
set_option maxRecDepth 8000 in
set_option maxHeartbeats 2000000 in
theorem bnew_any (c : Cf) (a : Option Addr) (cap : Nat) (ep : Int) (w : World) :
  Calls Tryz.prog 65 #[.agg #[int i64 c.s, int i64 c.le, int i64 c.la, int i64 c.wi, int i64 c.ke, int i64 c.qu, .slice a c.n cap], int i64 ep] w fun e w' => ∃ b tb qb, e = .returned (.pointer (some ⟨b, 0, none⟩)) /\ w.heap.size <= b /\ w.heap.size <= tb /\ w.heap.size <= qb /\ zbq w' b c (.slice a c.n cap) ep 0 tb qb [] [] /\ Below w.heap.size w w' := by
 have m1 : ∀ W : World, (Instr.makeMap 154 none).run Tryz.prog W = .ok (.map (some W.heap.size)) (W.alloc (.map #[] 0)) := fun W => by kernel_rfl
 have m2 : ∀ W : World, (Instr.makeMap 153 none).run Tryz.prog W = .ok (.map (some W.heap.size)) (W.alloc (.map #[] 0)) := fun W => by kernel_rfl
 go_enter Tryz.func65, Tryz.ntmps65
 go_wp2_with fail
 go_ret
 refine ⟨w.heap.size + 1 + 1 + 1, w.heap.size + 1, w.heap.size + 1 + 1, rfl, by omega, by omega, by omega, bnew_at w _ c _ ep, ?_⟩
 have h1 : Below w.heap.size w (w.alloc (.cells #[int i64 c.s, int i64 c.le, int i64 c.la, int i64 c.wi, int i64 c.ke, int i64 c.qu, .slice a c.n cap] 80)) := (Below.refl _ _).alloc (Nat.le_refl _) _
 have h2 := h1.alloc h1.size (.map #[] 0)
 have h3 := h2.alloc h2.size (.map #[] 0)
 exact h3.alloc h3.size _
end Go.Proofs.YtpbimdkclnekeaaGreat
