import Derived.Test.YtpbimdkclnekeaaGreatKRef9
import Derived.Maps.Keyed
import Derived.Maps.RangeRun
import Derived.DeepKeys4
import Derived.RangeFuncOwn
import Derived.RangeFuncNested
import Derived.RangeFuncBound
import Derived.RangeFuncCalls
import Derived.RangeFuncLeaves
import Derived.Shelf.Abstract
import Derived.Shelf.RegionOpen
import Derived.WalkKit
import Derived.OwnWalkIn
import Derived.TacticsInMore
import Derived.LoopNIn
import Derived.LoopIn

namespace Go.Proofs.YtpbimdkclnekeaaGreat
open Go.RowKit
set_option linter.unusedVariables false
theorem zar {w : World} {p : Nat} {cs : Array Value} {T e : TypeId} {fr : Nat × Nat} {B size n : Nat} {v : Value} {xs : List Value} (h : w.heap[p]? = some (.cells cs T fr)) (hr : w.ownsRow B e size v n xs) (hT : T ≠ e) : ∀ k, v.ownBlock = some k -> ¬ k = p := fun k hk hkp => by
 subst hkp
 obtain ⟨cur, hc⟩ := zbv hr hk
 rw [h] at hc
 injection hc with hc; injection hc with _ hc; exact hT hc
theorem rowns_drew {w : World} {base size n : Nat} {e : TypeId} {v : Value} {xs : List Value} (h : w.ownsRow base e size v n xs) : w.drew.ownsRow base e size v n xs := h
theorem rgrown_drew {w w' : World} {row : Option Nat} (h : w.drew.grownBy w' row) : w.grownBy w' row := ⟨h.os, h.tape, h.output, h.size, h.block⟩
theorem rlast_drew (w : World) (o : Obj) : (w.alloc o).drew.heap[w.heap.size]? = some o := zag w o
theorem zcb {w : World} {B1 B2 s1 s2 n1 n2 : Nat} {e1 e2 : TypeId} {v1 v2 : Value} {x1 x2 : List Value} (h1 : w.ownsRow B1 e1 s1 v1 n1 x1) (h2 : w.ownsRow B2 e2 s2 v2 n2 x2) (hT : e1 ≠ e2) : ∀ k, v1.ownBlock = some k -> ¬ v2.ownBlock = some k := fun k hk hk2 => by
 obtain ⟨c1, hc1⟩ := zbv h1 hk
 obtain ⟨c2, hc2⟩ := zbv h2 hk2
 rw [hc1] at hc2
 injection hc2 with hc; injection hc with _ hc; exact hT hc
end Go.Proofs.YtpbimdkclnekeaaGreat

namespace Go.Proofs.YtpbimdkclnekeaaGreat
set_option linter.unusedVariables false
structure SV where
 st : Int
 cl : Cl
abbrev LV := List (Sg × SV)
def zdn : Cl := ⟨0, 0, 0, 0⟩
def zaq (L : LV) : List Sg := L.map (·.1)
def getL (L : LV) (s : Sg) : Option SV := (L.find? (fun p => decide (p.1 = s))).map (·.2)
def zeg (L : LV) (s : Sg) (v : SV) : LV := if s ∈ zaq L then L.map (fun p => if p.1 = s then (s, v) else p) else L ++ [(s, v)]
def stL (L : LV) (s : Sg) : SV := (getL L s).getD ⟨0, zdn⟩
def zep (v : SV) : Int := if v.st = 1 then v.cl.cnt else 2
def zdt : List Int -> Int
 | [] => 0
 | a :: l => a + zdt l
def zam (L : LV) : Int := zdt (L.map (fun p => zep p.2))
def isSt (k : Int) (v : SV) : Int := if v.st = k then 1 else 0
def zad (L : LV) (k : Int) : Int := zdt (L.map (fun p => isSt k p.2))
theorem sumI_append (a b : List Int) : zdt (a ++ b) = zdt a + zdt b := by
 induction a with
 | nil => simp [zdt]
 | cons x l ih => simp only [List.cons_append, zdt, ih]; omega
theorem sumI_perm {a b : List Int} (h : a.Perm b) : zdt a = zdt b := by
 induction h with
 | nil => rfl
 | cons x _ ih => simp only [zdt, ih]
 | swap x y l => simp only [zdt]; omega
 | trans _ _ h1 h2 => exact h1.trans h2
theorem getL_none {L : LV} {s : Sg} : getL L s = none ↔ s ∉ zaq L := by
 unfold getL zaq
 rw [Option.map_eq_none_iff, List.find?_eq_none]
 simp only [decide_eq_true_eq, List.mem_map]
 constructor
 ·rintro h ⟨p, hp, rfl⟩; exact h p hp rfl
 ·rintro h p hp e; exact h ⟨p, hp, e⟩
theorem getL_mem {L : LV} {s : Sg} {v : SV} (h : getL L s = some v) : (s, v) ∈ L := by
 unfold getL at h
 rw [Option.map_eq_some_iff] at h
 obtain ⟨p, hp, rfl⟩ := h
 have h1 := List.find?_some hp
 have h2 := List.mem_of_find?_eq_some hp
 simp at h1; subst h1; exact h2
theorem getL_of {L : LV} {s : Sg} (h : s ∈ zaq L) : ∃ v, getL L s = some v /\ (s, v) ∈ L := by
 cases e : getL L s with
 | none => exact absurd h (getL_none.1 e)
 | some v => exact ⟨v, rfl, getL_mem e⟩
theorem zcw {L : LV} {s : Sg} {v : SV} {k : Sg} : k ∈ zaq (zeg L s v) ↔ k ∈ zaq L \/ k = s := by
 unfold zeg
 by_cases h : s ∈ zaq L
 ·rw [if_pos h]
  have : zaq (L.map (fun p => if p.1 = s then (s, v) else p)) = zaq L := by
   unfold zaq
   rw [List.map_map]
   apply List.map_congr_left
   intro p _
   simp only [Function.comp]
   split <;> simp_all
  rw [this]
  constructor
  ·exact .inl
  ·rintro (h1 | rfl) <;> assumption
 ·rw [if_neg h]; simp [zaq]
theorem nodup_putL {L : LV} {s : Sg} {v : SV} (h : (zaq L).Nodup) : (zaq (zeg L s v)).Nodup := by
 unfold zeg
 by_cases hs : s ∈ zaq L
 ·rw [if_pos hs]
  have : zaq (L.map (fun p => if p.1 = s then (s, v) else p)) = zaq L := by
   unfold zaq
   rw [List.map_map]
   apply List.map_congr_left
   intro p _
   simp only [Function.comp]
   split <;> simp_all
  rw [this]; exact h
 ·rw [if_neg hs]
  unfold zaq at *
  rw [List.map_append, List.nodup_append]
  refine ⟨h, by simp, fun a ha b hb => ?_⟩
  simp at hb; subst hb; intro e; subst e; exact hs ha
theorem zdp {L : LV} {s : Sg} {v : SV} {p : Sg × SV} (h : p ∈ zeg L s v) : p = (s, v) \/ (p ∈ L /\ p.1 ≠ s) := by
 unfold zeg at h
 by_cases hs : s ∈ zaq L
 ·rw [if_pos hs, List.mem_map] at h
  obtain ⟨q, hq, rfl⟩ := h
  by_cases e : q.1 = s
  ·left; simp [e]
  ·right; simp [e, hq]
 ·rw [if_neg hs, List.mem_append] at h
  rcases h with h | h
  ·right; exact ⟨h, fun e => hs (by unfold zaq; exact List.mem_map.2 ⟨p, h, e⟩)⟩
  ·left; simpa using h
theorem sum_put_new {L : LV} {s : Sg} {v : SV} (f : SV -> Int) (h : s ∉ zaq L) : zdt ((zeg L s v).map (fun p => f p.2)) = zdt (L.map (fun p => f p.2)) + f v := by
 unfold zeg; rw [if_neg h, List.map_append, sumI_append]; simp [zdt]
theorem map_absent {L : LV} {s : Sg} {v : SV} (f : SV -> Int) : s ∉ zaq L -> (L.map (fun p => if p.1 = s then (s, v) else p)).map (fun p => f p.2) = L.map (fun p => f p.2) := by
 intro h
 rw [List.map_map]
 apply List.map_congr_left
 intro p hp
 have : ¬ p.1 = s := fun e => h (by unfold zaq; exact List.mem_map.2 ⟨p, hp, e⟩)
 simp [this]
theorem sum_put_old {s : Sg} {u v : SV} (f : SV -> Int) : ∀ {L : LV}, (zaq L).Nodup -> (s, u) ∈ L -> zdt ((L.map (fun p => if p.1 = s then (s, v) else p)).map (fun p => f p.2)) = zdt (L.map (fun p => f p.2)) - f u + f v
 | [], _, h => by simp at h
 | q :: L, hn, h => by
  unfold zaq at hn
  rw [List.map_cons, List.nodup_cons] at hn
  rw [List.mem_cons] at h
  rcases h with rfl | h
  ·have hm := map_absent (L := L) (s := s) (v := v) f hn.1
   rw [List.map_cons, List.map_cons, List.map_cons, hm]
   simp only [zdt, if_true]; omega
  ·have hq : ¬ q.1 = s := fun e => hn.1 (by rw [e]; exact List.mem_map.2 ⟨_, h, rfl⟩)
   have := sum_put_old f (L := L) (s := s) (u := u) (v := v) hn.2 h
   rw [List.map_cons, List.map_cons, List.map_cons]
   simp only [hq, if_false, zdt]
   rw [this]; omega
def heldV (c : Cf) (nums : List Nm) (s : Sg) : SV := if s.t = -1 then ⟨1, cellOf c s nums⟩ else ⟨2, zdn⟩
section
variable {c : Cf} {nums : List Nm} {L : LV}
end
def zdu (v : Int) : Option Cl -> Cl
 | none => ⟨1, v, v, v⟩
 | some o => ⟨1 + o.cnt, v + o.sum, if o.mn < v then o.mn else v, if v < o.mx then o.mx else v⟩
def zbz (c : Cf) (x : Nm) : Sg := zaz c (-1) x
def zcy (c : Cf) (L : LV) (x : Nm) : LV := zeg L (zbz c x) ⟨1, zdu x.val ((getL L (zbz c x)).map (·.cl))⟩
def zdf (c : Cf) (x : Nm) (k : Nat) (L : LV) : LV := if zaz c (k : Int) x ∈ zaq L then L else zeg L (zaz c (k : Int) x) ⟨2, zdn⟩
def addTo (c : Cf) (x : Nm) : Nat -> LV -> LV
 | 0, L => L
 | k + 1, L => zdf c x k (addTo c x k L)
def addL (c : Cf) (L : LV) (x : Nm) : LV := addTo c x c.n (zcy c L x)
def missL (c : Cf) (L : LV) (x : Nm) : Nat -> Int
 | 0 => 0
 | k + 1 => missL c L x k + (if zaz c (k : Int) x ∈ zaq L then 0 else 1)
theorem zet (c : Cf) (L : LV) (x : Nm) : ∀ k : Nat, 0 <= missL c L x k /\ missL c L x k <= k
 | 0 => by simp [missL]
 | k + 1 => by have := zet c L x k; simp only [missL]; split <;> omega
section
variable {c : Cf} {nums : List Nm} {L : LV}
theorem seg_ne {x : Nm} {i j : Int} (h : i ≠ j) : zaz c i x ≠ zaz c j x := fun e => h (by injection e)
structure Mid (c : Cf) (nums : List Nm) (x : Nm) (k : Nat) (L : LV) : Prop where
 nodup : (zaq L).Nodup
 keys : ∀ s, s ∈ zaq L ↔ s ∈ segsOf c nums \/ s = zbz c x \/ ∃ j : Nat, j < k /\ s = zaz c (j : Int) x
 vals : ∀ p ∈ L, p.2 = heldV c (nums ++ [x]) p.1
theorem Mid.step {x : Nm} {k : Nat} (h : Mid c nums x k L) : Mid c nums x (k + 1) (zdf c x k L) := by
 unfold zdf
 by_cases hk : zaz c (k : Int) x ∈ zaq L
 ·rw [if_pos hk]
  refine ⟨h.nodup, fun s => ?_, h.vals⟩
  rw [h.keys]
  constructor
  ·rintro (a | a | ⟨j, hj, a⟩)
   ·exact .inl a
   ·exact .inr (.inl a)
   ·exact .inr (.inr ⟨j, by omega, a⟩)
  ·rintro (a | a | ⟨j, hj, a⟩)
   ·exact .inl a
   ·exact .inr (.inl a)
   ·by_cases e : j = k
    ·subst e; subst a; exact (h.keys _).1 hk
    ·exact .inr (.inr ⟨j, by omega, a⟩)
 ·rw [if_neg hk]
  refine ⟨nodup_putL h.nodup, fun s => ?_, fun p hp => ?_⟩
  ·rw [zcw, h.keys]
   constructor
   ·rintro ((a | a | ⟨j, hj, a⟩) | a)
    ·exact .inl a
    ·exact .inr (.inl a)
    ·exact .inr (.inr ⟨j, by omega, a⟩)
    ·exact .inr (.inr ⟨k, by omega, a⟩)
   ·rintro (a | a | ⟨j, hj, a⟩)
    ·exact .inl (.inl a)
    ·exact .inl (.inr (.inl a))
    ·by_cases e : j = k
     ·subst e; exact .inr a
     ·exact .inl (.inr (.inr ⟨j, by omega, a⟩))
  ·rcases zdp hp with rfl | ⟨hp, _⟩
   ·show (⟨2, zdn⟩ : SV) = heldV c (nums ++ [x]) (zaz c (k : Int) x)
    unfold heldV
    rw [if_neg (show ¬ (zaz c (k : Int) x).t = -1 by simp only [zaz]; omega)]
   ·exact h.vals p hp
theorem Mid.to {x : Nm} (h : Mid c nums x 0 L) : ∀ k, Mid c nums x k (addTo c x k L)
 | 0 => h
 | k + 1 => (Mid.to h k).step
theorem keys_raw_tier (x : Nm) (j : Nat) (k : Nat) : zaz c (j : Int) x ∈ zaq (addTo c x k (zcy c L x)) ↔ zaz c (j : Int) x ∈ zaq L \/ j < k := by
 induction k with
 | zero =>
  show _ ∈ zaq (zeg _ _ _) ↔ _
  rw [zcw]
  constructor
  ·rintro (h | h)
   ·exact .inl h
   ·exact absurd h (seg_ne (by omega))
  ·rintro (h | h)
   ·exact .inl h
   ·omega
 | succ k ih =>
  show _ ∈ zaq (zdf c x k _) ↔ _
  unfold zdf
  by_cases hk : zaz c (k : Int) x ∈ zaq (addTo c x k (zcy c L x))
  ·rw [if_pos hk, ih]
   constructor
   ·rintro (h | h)
    ·exact .inl h
    ·exact .inr (by omega)
   ·rintro (h | h)
    ·exact .inl h
    ·by_cases e : j = k
     ·subst e; exact ih.1 hk
     ·exact .inr (by omega)
  ·rw [if_neg hk, zcw, ih]
   constructor
   ·rintro ((h | h) | h)
    ·exact .inl h
    ·exact .inr (by omega)
    ·right
     have : (j : Int) = (k : Int) := by injection h
     omega
   ·rintro (h | h)
    ·exact .inl (.inl h)
    ·by_cases e : j = k
     ·subst e; exact .inr rfl
     ·exact .inl (.inr (by omega))
theorem used_to (x : Nm) (k : Nat) : zam (addTo c x k (zcy c L x)) = zam (zcy c L x) + 2 * missL c L x k := by
 induction k with
 | zero => simp [addTo, missL]
 | succ k ih =>
  show zam (zdf c x k _) = _
  unfold zdf
  have hk := keys_raw_tier (c := c) (L := L) x k k
  simp only [Nat.lt_irrefl, or_false] at hk
  by_cases h : zaz c (k : Int) x ∈ zaq L
  ·rw [if_pos (hk.2 h), ih]; simp [missL, h]
  ·rw [if_neg (fun a => h (hk.1 a))]
   unfold zam at ih ⊢
   rw [sum_put_new zep (fun a => h (hk.1 a)), ih]; simp [missL, h, zep]; omega
end
end Go.Proofs.YtpbimdkclnekeaaGreat

namespace Go.Proofs.YtpbimdkclnekeaaGreat
open Value (int)
open IntKind (i64)
open Go.RowKit
set_option linter.unusedVariables false
theorem Tryz.infoTierR : (Tryz.prog.info? 66).map (fun i => (i.zero, i.size, i.bytes)) = some (some (.agg #[int i64 0, int i64 0, int i64 0]), 3, 24) := by kernel_rfl
theorem tsCells {w : World} {a : Option Addr} {n : Nat} {F W K : Nat -> Int} (h : TS w a n F W K) : 0 < (row3 n F W K).length -> ∃ ad, a = some ad /\ ∀ j v, (row3 n F W K)[j]? = some v -> w.cell? (ad.add j) = some v := by
 intro h0
 rw [zdd] at h0
 obtain ⟨b, off, rfl, _, hc⟩ := h (by omega)
 refine ⟨_, rfl, fun j v hv => ?_⟩
 have hj : j < n * 3 := by
  have := (List.getElem?_eq_some_iff.1 hv).1; rwa [zdd] at this
 rw [row3_get n F W K j hj] at hv
 cases hv
 have hadd : (⟨b, off, none⟩ : Addr).add j = ⟨b, off + j, none⟩ := by unfold Addr.add; split <;> simp_all
 rw [hadd]
 obtain ⟨c0, c1, c2⟩ := hc (j / 3) (by omega)
 rcases (show j % 3 = 0 \/ j % 3 = 1 \/ j % 3 = 2 by omega) with e | e | e
 ·have ej : j = j / 3 * 3 := by omega
  rw [ej, cell3_0]; exact c0
 ·have ej : j = j / 3 * 3 + 1 := by omega
  rw [ej, cell3_1]; exact c1
 ·have ej : j = j / 3 * 3 + 2 := by omega
  rw [ej, cell3_2]; exact c2
end Go.Proofs.YtpbimdkclnekeaaGreat

namespace Go.Proofs.YtpbimdkclnekeaaGreat
open Value (int)
open IntKind (i64)
open Go.RowKit Go.Maps
open Go.ChangeMaps (setBlock modify_eq_set)
set_option linter.unusedVariables false
def svVal (v : SV) : Value := .agg #[int i64 v.st, int i64 v.cl.cnt, int i64 v.cl.sum, .int .i32 v.cl.mn, .int .i32 v.cl.mx]
def zdg (n : Int) : Prop := -9223372036854775808 <= n /\ n <= 9223372036854775807
def Sg.wf (s : Sg) : Prop := zdg s.t /\ zdg s.ser /\ zdg s.win
theorem Tryz.laidOut : laidOutB Tryz.prog = true := by kernel_rfl
theorem keyRow : (137 : TypeId) < Tryz.prog.types.size := of_decide_eq_true (by kernel_rfl)
theorem keyLaw : Keyed Tryz.prog 137 := Keyed.of_law (deep_law_laid Tryz.laidOut (m := 2) (Nat.le_of_ble_eq_true rfl) keyRow (by kernel_rfl) (by kernel_rfl))
theorem key_size : ∃ m, Tryz.prog.types.size = m + 1 := by
 have h : 0 < Tryz.prog.types.size := of_decide_eq_true (by kernel_rfl)
 exact ⟨Tryz.prog.types.size - 1, by omega⟩
theorem key_cells : Tryz.prog.cellsOf 137 = 3 := by kernel_rfl
theorem int_cells : Tryz.prog.cellsOf 3 = 1 := by kernel_rfl
theorem key_type : Tryz.prog.keyType 137 = true := by kernel_rfl
theorem sg_inj {s k : Sg} (h : sgVal s = sgVal k) : s = k := by
 unfold sgVal at h
 injection h with h
 injection h with h
 injection h with h1 h
 injection h with h2 h
 injection h with h3 h
 injection h1 with _ h1
 injection h2 with _ h2
 injection h3 with _ h3
 cases s; cases k; simp at *; exact ⟨h1, h2, h3⟩
theorem wf64 {n : Int} (h : zdg n) : (Lit.int .i64 n).wf = true := WalkArith.wf_i64 (by unfold zdg at h; omega)
theorem sg_key {s : Sg} (h : s.wf) : ∃ kl, keyOf Tryz.prog 137 (sgVal s) = some kl := by
 obtain ⟨m, hm⟩ := key_size
 obtain ⟨h1, h2, h3⟩ := h
 have hf : (sgVal s).formed Tryz.prog 137 = true := by
  simp [Value.formed, sgVal, Tryz.underlying137, key_cells]
 unfold keyOf
 simp only [Tryz.underlying137, key_type, hf, Bool.and_self, if_true]
 have : ∃ ls, Tryz.prog.keyLits (Tryz.prog.types.size + 1) 137 (sgVal s).cells.toList = some ls := by
  rw [hm]
  simp [Program.keyLits, Tryz.underlying137, Tryz.underlying3, sgVal, Value.cells, key_cells, int_cells, wf64 h1, wf64 h2, wf64 h3]
 obtain ⟨ls, hls⟩ := this
 exact ⟨_, by rw [hls]; rfl⟩
structure Ents (es : Array MapEntry) (clock : Nat) (L : LV) : Prop where
 kv : es.toList.map (fun e => (e.key, e.val)) = L.map (fun p => (sgVal p.1, svVal p.2))
 born : ∀ e ∈ es.toList, e.born < clock
 once : (es.toList.map (·.born)).Nodup
 wf : ∀ p ∈ L, p.1.wf
 nodup : (zaq L).Nodup
 size : es.size <= maxLen
def zev (w : World) (b : Nat) (L : LV) : Prop := ∃ es clock, w.heap[b]? = some (.map es clock) /\ Ents es clock L
theorem zev.lt {w : World} {b : Nat} {L : LV} (h : zev w b L) : b < w.heap.size := by
 obtain ⟨es, clock, hb, _⟩ := h; exact zaa hb
theorem zev.kept {f : Nat -> Prop} {w w' : World} {b : Nat} {L : LV} (h : zev w b L) (hk : zaj f w w') (hn : ¬ f b) : zev w' b L := by
 obtain ⟨es, clock, hb, he⟩ := h; exact ⟨es, clock, hk.heap hb hn, he⟩
theorem zev.later {w w' : World} {b : Nat} {L : LV} (h : zev w b L) (hb : Below w.heap.size w w') : zev w' b L :=
 h.kept (f := fun _ => False) (zaj.of_below hb) (fun h => h)
theorem zev.wf {w : World} {b : Nat} {L : LV} (h : zev w b L) : ∀ p ∈ L, p.1.wf := by obtain ⟨es, clock, hb, he⟩ := h; exact he.wf
theorem zev.made (w : World) : zev (w.alloc (.map #[] 0)) w.heap.size [] := ⟨#[], 0, zag _ _, ⟨rfl, by simp, by simp, by simp, by simp [zaq], by simp⟩⟩
theorem Ents.keys {es : Array MapEntry} {clock : Nat} {L : LV} (h : Ents es clock L) : ∀ e ∈ es.toList, ∃ l, keyOf Tryz.prog 137 e.key = some l := fun e he => by
 have hm : (e.key, e.val) ∈ L.map (fun p => (sgVal p.1, svVal p.2)) := h.kv ▸ List.mem_map.2 ⟨e, he, rfl⟩
 obtain ⟨p, hp, e1⟩ := List.mem_map.1 hm
 injection e1 with e1 e2
 rw [<- e1]; exact sg_key (h.wf p hp)
theorem Ents.at {es : Array MapEntry} {clock : Nat} {L : LV} (h : Ents es clock L) {j : Nat} {e : MapEntry} (hj : es.toList[j]? = some e) : ∃ p, L[j]? = some p /\ e.key = sgVal p.1 /\ e.val = svVal p.2 := by
 have h1 : (es.toList.map (fun e => (e.key, e.val)))[j]? = some (e.key, e.val) := by simp [hj]
 rw [h.kv, List.getElem?_map] at h1
 cases hp : L[j]? with
 | none => simp [hp] at h1
 | some p =>
  rw [hp] at h1
  simp at h1
  exact ⟨p, rfl, h1.1.symm, h1.2.symm⟩
theorem key_mem {L : LV} {s : Sg} {j : Nat} {p : Sg × SV} (hp : L[j]? = some p) (e : p.1 = s) : s ∈ zaq L := by
 unfold zaq; exact List.mem_map.2 ⟨p, List.mem_of_getElem? hp, e⟩
theorem getL_at {L : LV} (hn : (zaq L).Nodup) {j : Nat} {p : Sg × SV} (hp : L[j]? = some p) : getL L p.1 = some p.2 := by
 obtain ⟨v, hv, hm⟩ := getL_of (key_mem hp rfl)
 rw [hv]
 have hpm := List.mem_of_getElem? hp
 have : (p.1, v) = p := by
  have hpw : L.Pairwise (fun a b => a.1 ≠ b.1) := by unfold zaq at hn; exact List.pairwise_map.1 hn
  by_cases e : (p.1, v) = p
  ·exact e
  ·obtain ⟨i, hi, ei⟩ := List.getElem_of_mem hm
   obtain ⟨i2, hi2, ei2⟩ := List.getElem_of_mem hpm
   rcases Nat.lt_trichotomy i i2 with h | h | h
   ·have := List.pairwise_iff_getElem.1 hpw i i2 hi hi2 h; rw [ei, ei2] at this; exact absurd rfl this
   ·subst h; rw [ei] at ei2; exact ei2
   ·have := List.pairwise_iff_getElem.1 hpw i2 i hi2 hi h; rw [ei, ei2] at this; exact absurd rfl this
 rw [<- this]
def lookV (c : Bool) (z : Value) (L : LV) (s : Sg) : Value := match getL L s with
 | none => if c then .tuple #[z, .bool false] else z
 | some v => if c then .tuple #[svVal v, .bool true] else svVal v
theorem run_look (c : Bool) {w : World} {b : Nat} {L : LV} (h : zev w b L) {s : Sg} (hs : s.wf) :
  (Instr.lookup 135 (.map (some b)) (sgVal s) c).run Tryz.prog w = .ok (lookV c (svVal ⟨0, zdn⟩) L s) w := by
 obtain ⟨es, clock, hb, he⟩ := h
 obtain ⟨kl, hkl⟩ := sg_key hs
 have hz : (zeroValue 131).run Tryz.prog w = .ok (svVal ⟨0, zdn⟩) w := by kernel_rfl
 rcases keyLaw.find w hkl es.toList he.keys with ⟨h1, h2⟩ | ⟨j, e0, h1, h2, h3⟩
 ·have hg : getL L s = none := getL_none.2 (fun hm => by
   obtain ⟨p, hp, e⟩ := List.mem_map.1 (show s ∈ L.map (·.1) from hm)
   have hm2 : (sgVal p.1, svVal p.2) ∈ es.toList.map (fun e => (e.key, e.val)) := he.kv ▸ List.mem_map.2 ⟨p, hp, rfl⟩
   obtain ⟨x, hx, ex⟩ := List.mem_map.1 hm2
   injection ex with e1 e2
   exact h2 x hx (by rw [e1, e]))
  simp [Instr.lookup, run_underlying Tryz.underlying135, MapKept.run_getObj_map hb, keyLaw.check w _ hkl, h1, hz, Result.andThen, lookV, hg]
 ·obtain ⟨p, hp, hk, hv⟩ := he.at h2
  have hps : p.1 = s := sg_inj (hk.symm.trans h3)
  have hg : getL L s = some p.2 := by rw [<- hps]; exact getL_at he.nodup hp
  simp [Instr.lookup, run_underlying Tryz.underlying135, MapKept.run_getObj_map hb, keyLaw.check w _ hkl, h1, Result.andThen, lookV, hg, hv]
theorem size_LV {es : Array MapEntry} {clock : Nat} {L : LV} (h : Ents es clock L) : es.size = L.length := by
 have := congrArg List.length h.kv; simpa using this
theorem run_store {w : World} {b : Nat} {L : LV} (h : zev w b L) (hroom : L.length < maxLen) {s : Sg} (hs : s.wf) (v : SV) :
  ∃ o, (Instr.mapUpdate 135 (.map (some b)) (sgVal s) (svVal v)).run Tryz.prog w = .ok () (setBlock w b o) /\ zev (setBlock w b o) b (zeg L s v) /\ zaj (fun k => k = b) w (setBlock w b o) /\ o.isCells = false := by
 have hbl := h.lt
 have kp : ∀ o, zaj (fun k => k = b) w (setBlock w b o) := fun o => ⟨rfl, rfl, rfl, by simp [setBlock], fun k hk hne => by
  simp only [setBlock]; rw [Array.getElem?_setIfInBounds_ne (fun e => hne e.symm)]⟩
 have hat : ∀ o, (setBlock w b o).heap[b]? = some o := fun o => by simp [setBlock, hbl]
 obtain ⟨es, clock, hb, he⟩ := h
 obtain ⟨kl, hkl⟩ := sg_key hs
 rcases keyLaw.find w hkl es.toList he.keys with ⟨h1, h2⟩ | ⟨j, e0, h1, h2, h3⟩
 ·have hg : s ∉ zaq L := (fun hm => by
   obtain ⟨p, hp, e⟩ := List.mem_map.1 (show s ∈ L.map (·.1) from hm)
   have hm2 : (sgVal p.1, svVal p.2) ∈ es.toList.map (fun e => (e.key, e.val)) := he.kv ▸ List.mem_map.2 ⟨p, hp, rfl⟩
   obtain ⟨x, hx, ex⟩ := List.mem_map.1 hm2
   injection ex with e1 e2
   exact h2 x hx (by rw [e1, e]))
  refine ⟨.map (es.push ⟨sgVal s, svVal v, clock⟩) (clock + 1), ?_, ⟨_, _, hat _, ?_⟩, kp _, rfl⟩
  ·simp [Instr.mapUpdate, run_underlying Tryz.underlying135, MapKept.run_getObj_map hb, keyLaw.check w false hkl, h1, MapKept.run_setObj_map _ hb, Result.andThen, setBlock]
  ·have hp : zeg L s v = L ++ [(s, v)] := by unfold zeg; rw [if_neg hg]
   refine ⟨by rw [hp]; simp [he.kv], ?_, ?_, ?_, nodup_putL he.nodup, by have := size_LV he; simp; omega⟩
   ·intro x hx
    simp at hx
    rcases hx with hx | rfl
    ·have := he.born x (by simpa using hx); omega
    ·simp
   ·rw [Array.toList_push, List.map_append, List.nodup_append]
    refine ⟨he.once, by simp, fun a ha c hc => ?_⟩
    simp at hc; subst hc
    obtain ⟨x, hx, rfl⟩ := List.mem_map.1 ha
    have := he.born x hx; omega
   ·rw [hp]; intro p hp
    rcases List.mem_append.1 hp with hp | hp
    ·exact he.wf p hp
    ·simp at hp; subst hp; exact hs
 ·obtain ⟨p, hp, hk, hv⟩ := he.at h2
  have hps : p.1 = s := sg_inj (hk.symm.trans h3)
  have hj : es[j]? = some e0 := by simpa using h2
  have hin : s ∈ zaq L := key_mem hp hps
  have hlist : (es.modify j (fun e' => { e' with key := sgVal s, val := svVal v })).toList = es.toList.set j { e0 with key := sgVal s, val := svVal v } := by rw [Array.toList_modify, modify_eq_set _ _ _ _ h2]
  refine ⟨.map (es.modify j (fun e' => { e' with key := sgVal s, val := svVal v })) clock, ?_, ⟨_, _, hat _, ?_⟩, kp _, rfl⟩
  ·simp [Instr.mapUpdate, run_underlying Tryz.underlying135, MapKept.run_getObj_map hb, keyLaw.check w false hkl, h1, hj, h3, keyLaw.stays w hkl, MapKept.run_setObj_map _ hb, Result.andThen, setBlock]
  ·have hput : zeg L s v = L.set j (s, v) := by
    unfold zeg; rw [if_pos hin]
    apply List.ext_getElem?
    intro i
    rw [List.getElem?_map, List.getElem?_set]
    by_cases e : j = i
    ·subst e
     have hjl : j < L.length := (List.getElem?_eq_some_iff.1 hp).1
     rw [hp]; simp only [Option.map_some, hps, if_true, hjl]
    ·rw [if_neg e]
     cases hi : L[i]? with
     | none => simp
     | some q =>
      have hne : q.1 ≠ s := fun eq => by
       have hpw : L.Pairwise (fun a b => a.1 ≠ b.1) := List.pairwise_map.1 he.nodup
       obtain ⟨hil, ei⟩ := List.getElem?_eq_some_iff.1 hi
       obtain ⟨hjl, ej⟩ := List.getElem?_eq_some_iff.1 hp
       rcases Nat.lt_or_gt_of_ne e with h | h
       ·have := List.pairwise_iff_getElem.1 hpw j i hjl hil h; rw [ei, ej] at this; exact this (hps.trans eq.symm)
       ·have := List.pairwise_iff_getElem.1 hpw i j hil hjl h; rw [ei, ej] at this; exact this (eq.trans hps.symm)
      simp [hne]
   refine ⟨?_, ?_, ?_, ?_, nodup_putL he.nodup, by simpa using he.size⟩
   ·rw [hlist, hput, List.map_set, List.map_set, he.kv]
   ·intro x hx
    rw [hlist] at hx
    rcases List.mem_or_eq_of_mem_set hx with hx | rfl
    ·exact he.born x hx
    ·exact he.born e0 (List.mem_of_getElem? h2)
   ·rw [hlist, List.map_set]
    have : (es.toList.map (·.born)).set j e0.born = es.toList.map (·.born) := by
     apply List.ext_getElem?
     intro i
     rw [List.getElem?_set]
     by_cases e : j = i
     ·subst e
      have hjl : j < es.toList.length := (List.getElem?_eq_some_iff.1 h2).1
      simp only [List.length_map, hjl, if_true, List.getElem?_map, h2, Option.map_some]
     ·rw [if_neg e]
    show ((es.toList.map (·.born)).set j e0.born).Nodup
    rw [this]; exact he.once
   ·intro q hq
    rcases zdp hq with rfl | ⟨hq, _⟩
    ·exact hs
    ·exact he.wf q hq
end Go.Proofs.YtpbimdkclnekeaaGreat

namespace Go.Proofs.YtpbimdkclnekeaaGreat
open Go.RowKit Go.Maps Go.Shelf
open Go.ChangeMaps (setBlock)
set_option linter.unusedVariables false
attribute [local go_sem] Oper.semAt_some
theorem zcv {w : World} {r : Nat} (h : r < w.heap.size) (o : Obj) : (setBlock w r o).heap[r]? = some o := by simp [setBlock, h]
theorem zcq {w : World} {r k : Nat} (h : k ≠ r) (o : Obj) : (setBlock w r o).heap[k]? = w.heap[k]? := by
 simp only [setBlock]; rw [Array.getElem?_setIfInBounds_ne (fun e => h e.symm)]
theorem zce (w : World) (r : Nat) (o : Obj) : w.grownBy (setBlock w r o) (some r) :=
 ⟨rfl, rfl, rfl, by simp [setBlock], fun k _ hk => zcq (fun e => hk (by rw [e])) o⟩
def leftAt (es : Array MapEntry) (r : Nat) (w : World) : Nat := match w.heap[r]? with
 | some (.mapIter _ _ seen _) => (leftOf es seen).size
 | _ => 0
theorem zck {es : Array MapEntry} {r : Nat} {w : World} {m : Option Nat} {s : Nat} {seen : Array Nat} {c : Nat} (h : w.heap[r]? = some (.mapIter m s seen c)) : leftAt es r w = (leftOf es seen).size := by
 unfold leftAt; rw [h]
theorem zcn {es : Array MapEntry} {seen : Array Nat} {e : MapEntry} : e ∈ (leftOf es seen).toList ↔ e ∈ es.toList /\ e.born ∉ seen.toList := by
 simp [leftOf]
theorem zfc {es : Array MapEntry} {seen : Array Nat} {e : MapEntry} (he : e ∈ (leftOf es seen).toList) : (leftOf es (seen.push e.born)).size < (leftOf es seen).size := by
 have h1 : leftOf es (seen.push e.born) = (leftOf es seen).filter (fun x => x.born != e.born) := by
  unfold leftOf
  rw [Array.filter_filter]
  congr 1
  funext x
  by_cases h : x.born = e.born <;> simp [h]
 rw [h1]
 simp
 exact ⟨e, Array.mem_toList_iff.1 he, rfl⟩
structure Come (es : Array MapEntry) (seen : Array Nat) (ps : List MapEntry) : Prop where
 born : ps.map (·.born) = seen.toList
 once : (ps.map (·.born)).Nodup
 sub : ∀ e ∈ ps, e ∈ es.toList
theorem Come.step {es : Array MapEntry} {seen : Array Nat} {ps : List MapEntry} (h : Come es seen ps) {e : MapEntry} (he : e ∈ (leftOf es seen).toList) : Come es (seen.push e.born) (ps ++ [e]) := by
 obtain ⟨h1, h2⟩ := zcn.1 he
 refine ⟨by simp [h.born], ?_, fun x hx => ?_⟩
 ·rw [List.map_append, List.nodup_append]
  refine ⟨h.once, by simp, fun a ha b hb => ?_⟩
  simp at hb; subst hb; intro e1; subst e1; rw [h.born] at ha; exact h2 ha
 ·rcases List.mem_append.1 hx with hx | hx
  ·exact h.sub x hx
  ·simp at hx; subst hx; exact h1
theorem born_eq {es : Array MapEntry} (hn : (es.toList.map (·.born)).Nodup) {a b : MapEntry} (ha : a ∈ es.toList) (hb : b ∈ es.toList) (h : a.born = b.born) : a = b := by
 have hpw : es.toList.Pairwise (fun a b => a.born ≠ b.born) := List.pairwise_map.1 hn
 obtain ⟨i, hi, ei⟩ := List.getElem_of_mem ha
 obtain ⟨j, hj, ej⟩ := List.getElem_of_mem hb
 rcases Nat.lt_trichotomy i j with h1 | h1 | h1
 ·have := List.pairwise_iff_getElem.1 hpw i j hi hj h1; rw [ei, ej] at this; exact absurd h this
 ·subst h1; rw [<- ei, ej]
 ·have := List.pairwise_iff_getElem.1 hpw j i hj hi h1; rw [ei, ej] at this; exact absurd h.symm this
theorem Come.all {es : Array MapEntry} {seen : Array Nat} {ps : List MapEntry} (h : Come es seen ps) (hn : (es.toList.map (·.born)).Nodup) (h0 : (leftOf es seen).size = 0) : ps.Perm es.toList := by
 have hps : ps.Nodup := List.Pairwise.of_map (·.born) (fun a b h e => h (by rw [e])) h.once
 have hes : es.toList.Nodup := List.Pairwise.of_map (·.born) (fun a b h e => h (by rw [e])) hn
 refine (List.perm_ext_iff_of_nodup hps hes).2 (fun e => ⟨h.sub e, fun he => ?_⟩)
 have hs : e.born ∈ seen.toList := by
  by_cases hc : e.born ∈ seen.toList
  ·exact hc
  ·have : e ∈ (leftOf es seen).toList := zcn.2 ⟨he, hc⟩
   have h1 : (leftOf es seen).toList = [] := by
    apply List.eq_nil_of_length_eq_zero; simpa using h0
   rw [h1] at this; simp at this
 rw [<- h.born] at hs
 obtain ⟨x, hx, e1⟩ := List.mem_map.1 hs
 rw [<- born_eq hn (h.sub x hx) he e1]; exact hx
theorem Come.lt {es : Array MapEntry} {seen : Array Nat} {ps : List MapEntry} (h : Come es seen ps) {e : MapEntry} (he : e ∈ (leftOf es seen).toList) : ps.length < es.size := by
 have h2 := (h.step he)
 have hps : (ps ++ [e]).Nodup := List.Pairwise.of_map (·.born) (fun a b h e => h (by rw [e])) h2.once
 have := List.Nodup.length_le_of_subset hps (fun x hx => h2.sub x hx)
 simp at this; omega
end Go.Proofs.YtpbimdkclnekeaaGreat

namespace Go.Proofs.YtpbimdkclnekeaaGreat
open Value (int)
open IntKind (i64)
open Go.RowKit Go.Maps Go.Shelf
set_option linter.unusedVariables false
attribute [local go_sem] Oper.semAt_some
abbrev WSg := { s : Sg // s.wf }
theorem zero_wf : (⟨0, 0, 0⟩ : Sg).wf := by refine ⟨?_, ?_, ?_⟩ <;> (unfold zdg; simp)
noncomputable def wSeg (s : Sg) : WSg := by classical exact if h : s.wf then ⟨s, h⟩ else ⟨⟨0, 0, 0⟩, zero_wf⟩
theorem wSeg_val {s : Sg} (h : s.wf) : (wSeg s).1 = s := by unfold wSeg; rw [dif_pos h]
def wsum (l : List Int) : Int := l.foldl (fun s x => wrap64 (s + x)) 0
theorem wsum_snoc (l : List Int) (x : Int) : wsum (l ++ [x]) = wrap64 (wsum l + x) := by simp [wsum]
theorem wrap_in (a b : Int) : wrap64 (wrap64 a + b) = wrap64 (a + b) := by unfold wrap64; omega
theorem wsum_eq : ∀ l : List Int, wsum l = wrap64 (zdt l) := by
 intro l
 have h : ∀ (l : List Int) (s : Int), l.foldl (fun s x => wrap64 (s + x)) (wrap64 s) = wrap64 (s + zdt l) := by
  intro l
  induction l with
  | nil => intro s; simp [zdt]
  | cons x l ih => intro s; rw [List.foldl_cons, wrap_in, ih, zdt]; congr 1; omega
 have := h l 0
 have e : wrap64 0 = 0 := by unfold wrap64; omega
 rw [e] at this
 unfold wsum; rw [this]; congr 1; omega
theorem wsum_small {l : List Int} (h : -9223372036854775808 <= zdt l /\ zdt l <= 9223372036854775807) : wsum l = zdt l := by
 rw [wsum_eq]; unfold wrap64; omega
theorem zap {W W' : World} {row : Option Nat} {k : Nat} {cs : Array Value} {t : TypeId} {fr : Nat × Nat} (h : W.heap[k]? = some (.cells cs t fr)) (hg : W.grownBy W' row) (hr : ∀ r, row = some r -> ∃ o : Obj, W.heap[r]? = some o /\ o.isCells = false) : W'.heap[k]? = some (.cells cs t fr) := by
 refine (hg.block k (zaa h) (fun e => ?_)).trans h
 obtain ⟨o, ho, hc⟩ := hr k e.symm
 rw [h] at ho
 injection ho with ho
 subst ho
 simp [Obj.isCells] at hc
theorem zea {W W' : World} (h : Below W.heap.size W W') : KeepsOthers W W' := ⟨h.size, fun k o hk _ => (h.block k (zaa hk)).trans hk⟩
theorem zcj {n D : Nat} {w W : World} {o : Obj} (h : Below n w W) (hn : n <= w.heap.size) (hD : n <= D) (hK : W.heap[D]? = some o) (o' : Obj) : Below n w (W.putObj D o') :=
 h.grown (grownBy_putObj' W D o') (Nat.le_trans hn h.size) (fun k e => by cases e; exact hD)
structure Keeping (n : Nat) (Kp : World -> World -> Prop) : Prop where
 t : ∀ {A B C : World}, Kp A B -> Kp B C -> Kp A C
 b : ∀ (W : World) (l : Nat) (o o' : Obj), n <= l -> W.heap[l]? = some o -> o.isCells = false -> o.isWalk = false -> Kp W (W.putObj l o')
 of : ∀ (W W' : World), KeepsOthers W W' -> Below n W W' -> Kp W W'
theorem keeping_below (n : Nat) : Keeping n (Below n) := ⟨fun h k => h.trans k, fun W l o o' hl h _ _ => (Below.refl n W).grown (grownBy_putObj' W l o') (by have := zaa h; omega) (fun k e => by cases e; exact hl), fun W W' _ h => h⟩
theorem sum_round {α : Type} {w W w' : World} {Kp : World -> World -> Prop} {f : α -> Int} {pre : List α} {x : α} {v : Value} {t t2 : TypeId} {B : Nat} {u : Value} (hu : u = int i64 (wrap64 (wsum (pre.map f) + f x)))
  (i1 : W.heap[w.heap.size]? = some (.cells #[v] t (0, 0))) (i2 : W.heap[w.heap.size + 1]? = some (.cells #[int i64 (wsum (pre.map f))] t2 (0, 0))) (i3 : Below w.heap.size w W) (hkp : Keeping w.heap.size Kp) (hb : Below W.heap.size W w') :
  KeepsFrom B W (w'.setCell ⟨w.heap.size + 1, 0, none⟩ u) /\ Kp W (w'.setCell ⟨w.heap.size + 1, 0, none⟩ u) /\ ((w'.setCell ⟨w.heap.size + 1, 0, none⟩ u).heap[w.heap.size]? = some (.cells #[v] t (0, 0)) /\ (w'.setCell ⟨w.heap.size + 1, 0, none⟩ u).heap[w.heap.size + 1]? = some (.cells #[int i64 (wsum ((pre ++ [x]).map f))] t2 (0, 0)) /\ Below w.heap.size w (w'.setCell ⟨w.heap.size + 1, 0, none⟩ u)) := by
 subst hu
 have hz1 := zaa i1
 have hz2 := zaa i2
 have k1 : KeepsOthers W (w'.setCell ⟨w.heap.size + 1, 0, none⟩ (int i64 (wrap64 (wsum (pre.map f) + f x)))) := (zea hb).trans (KeepsOthers.setCell _ _ _)
 have k2 : Below w.heap.size W (w'.setCell ⟨w.heap.size + 1, 0, none⟩ (int i64 (wrap64 (wsum (pre.map f) + f x)))) := ((hb.mono i3.size).setCell (p := ⟨w.heap.size + 1, 0, none⟩) (Nat.le_succ _) _)
 refine ⟨k1.from _, hkp.of _ _ k1 k2, ?_, ?_, i3.trans k2⟩
 ·have h1 := (hb.block _ hz1).trans i1
  show (w'.setCell ⟨w.heap.size + 1, 0, none⟩ _).heap[w.heap.size]? = _
  have hbk := ((Below.refl (w.heap.size + 1) w').setCell (p := ⟨w.heap.size + 1, 0, none⟩) (Nat.le_refl _) (int i64 (wrap64 (wsum (pre.map f) + f x)))).block w.heap.size (Nat.lt_succ_self _)
  exact hbk.trans h1
 ·have h2 := (hb.block _ hz2).trans i2
  rw [List.map_append, List.map_singleton, wsum_snoc]
  exact zcu (i := 0) h2 _
end Go.Proofs.YtpbimdkclnekeaaGreat
