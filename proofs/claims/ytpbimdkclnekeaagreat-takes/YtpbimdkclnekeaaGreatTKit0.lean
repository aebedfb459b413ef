import Derived.Test.YtpbimdkclnekeaaGreatTLater
import Derived.Maps.Keyed
import Derived.Maps.RangeRun
import Derived.RangeFuncOwn
import Derived.RangeFuncNested
import Derived.RangeFuncBound
import Derived.RangeFuncCalls
import Derived.RangeFuncLeaves
import Derived.StillTail
import Derived.StillTactics
import Derived.OrdersIn
import Derived.TacticsIn

namespace Go.Proofs.YtpbimdkclnekeaaGreat
open Value (int)
open IntKind (i64)
open Go.RowKit Go.Maps
open Go.ChangeMaps (setBlock modify_eq_set)
set_option linter.unusedVariables false
structure MK (α β : Type) where
 P : Program
 T : TypeId
 K : TypeId
 E : TypeId
 ke : α -> Value
 ve : β -> Value
 wf : α -> Prop
 z : Value
structure MK.Ok {α β : Type} (M : MK α β) : Prop where
 law : Keyed M.P M.K
 und : M.P.underlying M.T = some (.map M.K M.E)
 key : ∀ a, M.wf a -> ∃ kl, keyOf M.P M.K (M.ke a) = some kl
 inj : ∀ a b, M.ke a = M.ke b -> a = b
 zero : ∀ w, (zeroValue M.E).run M.P w = .ok M.z w
section
variable {α β : Type}
def zaj (L : List (α × β)) : List α := L.map (·.1)
structure MEnts (M : MK α β) (es : Array MapEntry) (clock : Nat) (L : List (α × β)) : Prop where
 kv : es.toList.map (fun e => (e.key, e.val)) = L.map (fun p => (M.ke p.1, M.ve p.2))
 born : ∀ e ∈ es.toList, e.born < clock
 once : (es.toList.map (·.born)).Nodup
 wf : ∀ p ∈ L, M.wf p.1
 nodup : (zaj L).Nodup
 size : es.size <= maxLen
def zce (M : MK α β) (w : World) (b : Nat) (L : List (α × β)) : Prop := ∃ es clock, w.heap[b]? = some (.map es clock) /\ MEnts M es clock L
variable {M : MK α β}
theorem zce.lt {w : World} {b : Nat} {L : List (α × β)} (h : zce M w b L) : b < w.heap.size := by
 obtain ⟨es, clock, hb, _⟩ := h; exact zaa hb
theorem zce.kept {f : Nat -> Prop} {w w' : World} {b : Nat} {L : List (α × β)} (h : zce M w b L) (hk : zan f w w') (hn : ¬ f b) : zce M w' b L := by
 obtain ⟨es, clock, hb, he⟩ := h; exact ⟨es, clock, hk.heap hb hn, he⟩
theorem zce.later {w w' : World} {b : Nat} {L : List (α × β)} (h : zce M w b L) (hb : Below w.heap.size w w') : zce M w' b L :=
 h.kept (f := fun _ => False) (zan.of_below hb) (fun h => h)
theorem zce.wf {w : World} {b : Nat} {L : List (α × β)} (h : zce M w b L) : ∀ p ∈ L, M.wf p.1 := by obtain ⟨es, clock, hb, he⟩ := h; exact he.wf
theorem zce.nodup {w : World} {b : Nat} {L : List (α × β)} (h : zce M w b L) : (zaj L).Nodup := by obtain ⟨es, clock, hb, he⟩ := h; exact he.nodup
theorem zce.made (w : World) : zce M (w.alloc (.map #[] 0)) w.heap.size [] := ⟨#[], 0, World.alloc_heap_new w _, ⟨rfl, by simp, by simp, by simp, by simp [zaj], by simp⟩⟩
theorem zce.same {w w' : World} {b : Nat} {L : List (α × β)} (h : zce M w b L) (he : w'.heap[b]? = w.heap[b]?) : zce M w' b L := by
 obtain ⟨es, clock, hb, hh⟩ := h; exact ⟨es, clock, he.trans hb, hh⟩
theorem MEnts.keys (ok : M.Ok) {es : Array MapEntry} {clock : Nat} {L : List (α × β)} (h : MEnts M es clock L) : ∀ e ∈ es.toList, ∃ l, keyOf M.P M.K e.key = some l := fun e he => by
 have hm : (e.key, e.val) ∈ L.map (fun p => (M.ke p.1, M.ve p.2)) := h.kv ▸ List.mem_map.2 ⟨e, he, rfl⟩
 obtain ⟨p, hp, e1⟩ := List.mem_map.1 hm
 injection e1 with e1 e2
 rw [<- e1]; exact ok.key _ (h.wf p hp)
theorem MEnts.at {es : Array MapEntry} {clock : Nat} {L : List (α × β)} (h : MEnts M es clock L) {j : Nat} {e : MapEntry} (hj : es.toList[j]? = some e) : ∃ p, L[j]? = some p /\ e.key = M.ke p.1 /\ e.val = M.ve p.2 := by
 have h1 : (es.toList.map (fun e => (e.key, e.val)))[j]? = some (e.key, e.val) := by simp [hj]
 rw [h.kv, List.getElem?_map] at h1
 cases hp : L[j]? with
 | none => simp [hp] at h1
 | some p =>
  rw [hp] at h1
  simp at h1
  exact ⟨p, rfl, h1.1.symm, h1.2.symm⟩
theorem MEnts.absent {es : Array MapEntry} {clock : Nat} {L : List (α × β)} (h : MEnts M es clock L) {s : α} (h2 : ∀ e ∈ es.toList, e.key ≠ M.ke s) : s ∉ zaj L := fun hm => by
 obtain ⟨p, hp, e⟩ := List.mem_map.1 (show s ∈ L.map (·.1) from hm)
 have hm2 : (M.ke p.1, M.ve p.2) ∈ es.toList.map (fun e => (e.key, e.val)) := h.kv ▸ List.mem_map.2 ⟨p, hp, rfl⟩
 obtain ⟨x, hx, ex⟩ := List.mem_map.1 hm2
 injection ex with e1 e2
 exact h2 x hx (by rw [e1, e])
theorem MEnts.count {es : Array MapEntry} {clock : Nat} {L : List (α × β)} (h : MEnts M es clock L) : es.size = L.length := by
 have := congrArg List.length h.kv; simpa using this
theorem run_lenM (ok : M.Ok) {w : World} {b : Nat} {L : List (α × β)} (h : zce M w b L) (ty : TypeId) : (Builtin.len_ #[M.T] ty #[.map (some b)]).run M.P w = .ok (int i64 L.length) w := by
 obtain ⟨es, clock, hb, he⟩ := h
 have := he.count
 simp [Builtin.len_, run_underlying ok.und, MapKept.run_getObj_map hb, goInt, Result.andThen, this]
end
section
variable {α β : Type} [DecidableEq α]
def zbm (L : List (α × β)) (a : α) : Option β := (L.find? (fun p => decide (p.1 = a))).map (·.2)
def zer (L : List (α × β)) (a : α) (v : β) : List (α × β) := if a ∈ zaj L then L.map (fun p => if p.1 = a then (a, v) else p) else L ++ [(a, v)]
def zcj (L : List (α × β)) (a : α) : List (α × β) := L.filter (fun p => decide (p.1 ≠ a))
theorem zcb {L : List (α × β)} {a : α} : zbm L a = none ↔ a ∉ zaj L := by
 unfold zbm zaj
 rw [Option.map_eq_none_iff, List.find?_eq_none]
 constructor
 ·intro h hm
  obtain ⟨p, hp, e⟩ := List.mem_map.1 hm
  exact h p hp (by simpa using e)
 ·intro h p hp e
  exact h (List.mem_map.2 ⟨p, hp, by simpa using e⟩)
theorem zat {L : List (α × β)} {a : α} {v : β} (h : zbm L a = some v) : (a, v) ∈ L := by
 unfold zbm at h
 obtain ⟨p, hp, e⟩ := Option.map_eq_some_iff.1 h
 have h1 := List.mem_of_find?_eq_some hp
 have h2 := List.find?_some hp
 have h3 : p.1 = a := by simpa using h2
 subst h3; subst e; exact h1
theorem zcg {L : List (α × β)} (hn : (zaj L).Nodup) {a : α} {v : β} (h : (a, v) ∈ L) : zbm L a = some v := by
 cases hg : zbm L a with
 | none => exact absurd (List.mem_map.2 ⟨_, h, rfl⟩) (zcb.1 hg)
 | some u =>
  have hm := zat hg
  have hpw : L.Pairwise (fun a b => a.1 ≠ b.1) := List.pairwise_map.1 hn
  obtain ⟨i, hi, ei⟩ := List.getElem_of_mem hm
  obtain ⟨j, hj, ej⟩ := List.getElem_of_mem h
  rcases Nat.lt_trichotomy i j with h1 | h1 | h1
  ·have := List.pairwise_iff_getElem.1 hpw i j hi hj h1; rw [ei, ej] at this; exact absurd rfl this
  ·subst h1; rw [ei] at ej; cases ej; rfl
  ·have := List.pairwise_iff_getElem.1 hpw j i hj hi h1; rw [ei, ej] at this; exact absurd rfl this
theorem zbw {L : List (α × β)} {a : α} {v : β} {k : α} : k ∈ zaj (zer L a v) ↔ k ∈ zaj L \/ k = a := by
 unfold zer
 split
 next h =>
  have e : zaj (L.map (fun p => if p.1 = a then (a, v) else p)) = zaj L := by
   unfold zaj; rw [List.map_map]
   apply List.map_congr_left
   intro p _
   by_cases hp : p.1 = a <;> simp [hp]
  rw [e]
  exact ⟨.inl, fun h' => h'.elim id (fun e => e ▸ h)⟩
 next h => simp [zaj]
theorem keysM_put {L : List (α × β)} {a : α} {v : β} : zaj (zer L a v) = if a ∈ zaj L then zaj L else zaj L ++ [a] := by
 unfold zer
 split
 next h =>
  unfold zaj; rw [List.map_map]
  apply List.map_congr_left
  intro p _
  by_cases hp : p.1 = a <;> simp [hp]
 next h => simp [zaj]
theorem zdx {L : List (α × β)} {a : α} {v : β} (h : (zaj L).Nodup) : (zaj (zer L a v)).Nodup := by
 rw [keysM_put]
 split
 next => exact h
 next hn =>
  rw [List.nodup_append]
  refine ⟨h, by simp, fun x hx y hy e => ?_⟩
  simp at hy
  rw [hy] at e; rw [e] at hx; exact hn hx
theorem mem_putM {L : List (α × β)} {a : α} {v : β} {p : α × β} (h : p ∈ zer L a v) : p = (a, v) \/ (p ∈ L /\ p.1 ≠ a) := by
 unfold zer at h
 split at h
 next hin =>
  obtain ⟨q, hq, e⟩ := List.mem_map.1 h
  by_cases hqa : q.1 = a
  ·rw [if_pos hqa] at e; exact .inl e.symm
  ·rw [if_neg hqa] at e; subst e; exact .inr ⟨hq, hqa⟩
 next hn =>
  rcases List.mem_append.1 h with h | h
  ·exact .inr ⟨h, fun e => hn (List.mem_map.2 ⟨p, h, e⟩)⟩
  ·simp at h; exact .inl h
theorem getM_put {L : List (α × β)} (hn : (zaj L).Nodup) (a : α) (v : β) (k : α) : zbm (zer L a v) k = if k = a then some v else zbm L k := by
 have hn2 := zdx (a := a) (v := v) hn
 split
 next h =>
  subst h
  refine zcg hn2 ?_
  unfold zer
  split
  next hin =>
   obtain ⟨q, hq, e⟩ := List.mem_map.1 hin
   exact List.mem_map.2 ⟨q, hq, by rw [if_pos e]⟩
  next => simp
 next h =>
  cases hg : zbm L k with
  | none => exact zcb.2 (fun hm => by
    rcases zbw.1 hm with hm | hm
    ·exact zcb.1 hg hm
    ·exact h hm)
  | some u =>
   refine zcg hn2 ?_
   have hm := zat hg
   unfold zer
   split
   next => exact List.mem_map.2 ⟨_, hm, by rw [if_neg h]⟩
   next => exact List.mem_append_left _ hm
theorem zbh {L : List (α × β)} {a : α} {p : α × β} : p ∈ zcj L a ↔ p ∈ L /\ p.1 ≠ a := by unfold zcj; simp
theorem keysM_del {L : List (α × β)} {a : α} : zaj (zcj L a) = (zaj L).filter (fun k => decide (k ≠ a)) := by
 unfold zaj zcj; rw [List.filter_map]; rfl
theorem zdj {L : List (α × β)} {a : α} (h : (zaj L).Nodup) : (zaj (zcj L a)).Nodup := by rw [keysM_del]; exact h.filter _
theorem getM_del {L : List (α × β)} (hn : (zaj L).Nodup) (a k : α) : zbm (zcj L a) k = if k = a then none else zbm L k := by
 split
 next h =>
  subst h
  exact zcb.2 (by rw [keysM_del]; simp)
 next h =>
  cases hg : zbm L k with
  | none => exact zcb.2 (by rw [keysM_del]; simp; intro hm; exact absurd hm (zcb.1 hg))
  | some u => exact zcg (zdj hn) (zbh.2 ⟨zat hg, h⟩)
theorem length_putM {L : List (α × β)} {a : α} {v : β} : (zer L a v).length = if a ∈ zaj L then L.length else L.length + 1 := by
 unfold zer; split <;> simp
variable {M : MK α β}
def lookM (M : MK α β) (c : Bool) (o : Option β) : Value := match o with
 | none => if c then .tuple #[M.z, .bool false] else M.z
 | some v => if c then .tuple #[M.ve v, .bool true] else M.ve v
theorem run_lookM (ok : M.Ok) (c : Bool) {w : World} {b : Nat} {L : List (α × β)} (h : zce M w b L) {s : α} (hs : M.wf s) :
  (Instr.lookup M.T (.map (some b)) (M.ke s) c).run M.P w = .ok (lookM M c (zbm L s)) w := by
 obtain ⟨es, clock, hb, he⟩ := h
 obtain ⟨kl, hkl⟩ := ok.key s hs
 rcases ok.law.find w hkl es.toList (he.keys ok) with ⟨h1, h2⟩ | ⟨j, e0, h1, h2, h3⟩
 ·have hg : zbm L s = none := zcb.2 (he.absent h2)
  simp [Instr.lookup, run_underlying ok.und, MapKept.run_getObj_map hb, ok.law.check w _ hkl, h1, ok.zero w, Result.andThen, lookM, hg]
 ·obtain ⟨p, hp, hk, hv⟩ := he.at h2
  have hps : p.1 = s := ok.inj _ _ (hk.symm.trans h3)
  have hg : zbm L s = some p.2 := by rw [<- hps]; exact zcg he.nodup (List.mem_of_getElem? hp)
  simp [Instr.lookup, run_underlying ok.und, MapKept.run_getObj_map hb, ok.law.check w _ hkl, h1, Result.andThen, lookM, hg, hv]
theorem kept_block {w : World} {b : Nat} (o : Obj) : zan (fun k => k = b) w (setBlock w b o) := ⟨rfl, rfl, rfl, by simp [setBlock], fun k hk hne => by
  simp only [setBlock]; rw [Array.getElem?_setIfInBounds_ne (fun e => hne e.symm)]⟩
theorem run_storeM (ok : M.Ok) {w : World} {b : Nat} {L : List (α × β)} (h : zce M w b L) (hroom : L.length < maxLen) {s : α} (hs : M.wf s) (v : β) :
  ∃ o, (Instr.mapUpdate M.T (.map (some b)) (M.ke s) (M.ve v)).run M.P w = .ok () (setBlock w b o) /\ zce M (setBlock w b o) b (zer L s v) /\ zan (fun k => k = b) w (setBlock w b o) /\ o.isCells = false := by
 have hbl := h.lt
 have hat : ∀ o, (setBlock w b o).heap[b]? = some o := fun o => by simp [setBlock, hbl]
 obtain ⟨es, clock, hb, he⟩ := h
 obtain ⟨kl, hkl⟩ := ok.key s hs
 rcases ok.law.find w hkl es.toList (he.keys ok) with ⟨h1, h2⟩ | ⟨j, e0, h1, h2, h3⟩
 ·have hg : s ∉ zaj L := he.absent h2
  refine ⟨.map (es.push ⟨M.ke s, M.ve v, clock⟩) (clock + 1), ?_, ⟨_, _, hat _, ?_⟩, kept_block _, rfl⟩
  ·simp [Instr.mapUpdate, run_underlying ok.und, MapKept.run_getObj_map hb, ok.law.check w false hkl, h1, MapKept.run_setObj_map _ hb, Result.andThen, setBlock]
  ·have hp : zer L s v = L ++ [(s, v)] := by unfold zer; rw [if_neg hg]
   refine ⟨by rw [hp]; simp [he.kv], ?_, ?_, ?_, zdx he.nodup, by have := he.count; simp; omega⟩
   ·intro x hx
    simp at hx
    rcases hx with hx | rfl
    ·have := he.born x (by simpa using hx); omega
    ·simp
   ·rw [Array.toList_push, List.map_append, List.nodup_append]
    refine ⟨he.once, by simp, fun a ha c hc => ?_⟩
    simp at hc; subst hc
    obtain ⟨x, hx, rfl⟩ := List.mem_map.1 ha
    have := he.born x hx; omega
   ·rw [hp]; intro p hp
    rcases List.mem_append.1 hp with hp | hp
    ·exact he.wf p hp
    ·simp at hp; subst hp; exact hs
 ·obtain ⟨p, hp, hk, hv⟩ := he.at h2
  have hps : p.1 = s := ok.inj _ _ (hk.symm.trans h3)
  have hj : es[j]? = some e0 := by simpa using h2
  have hin : s ∈ zaj L := by unfold zaj; exact List.mem_map.2 ⟨p, List.mem_of_getElem? hp, hps⟩
  have hlist : (es.modify j (fun e' => { e' with key := M.ke s, val := M.ve v })).toList = es.toList.set j { e0 with key := M.ke s, val := M.ve v } := by rw [Array.toList_modify, modify_eq_set _ _ _ _ h2]
  refine ⟨.map (es.modify j (fun e' => { e' with key := M.ke s, val := M.ve v })) clock, ?_, ⟨_, _, hat _, ?_⟩, kept_block _, rfl⟩
  ·simp [Instr.mapUpdate, run_underlying ok.und, MapKept.run_getObj_map hb, ok.law.check w false hkl, h1, hj, h3, ok.law.stays w hkl, MapKept.run_setObj_map _ hb, Result.andThen, setBlock]
  ·have hput : zer L s v = L.set j (s, v) := by
    unfold zer; rw [if_pos hin]
    apply List.ext_getElem?
    intro i
    rw [List.getElem?_map, List.getElem?_set]
    by_cases e : j = i
    ·subst e
     have hjl : j < L.length := (List.getElem?_eq_some_iff.1 hp).1
     rw [hp]; simp only [Option.map_some, hps, if_true, hjl]
    ·rw [if_neg e]
     cases hi : L[i]? with
     | none => simp
     | some q =>
      have hne : q.1 ≠ s := fun eq => by
       have hpw : L.Pairwise (fun a b => a.1 ≠ b.1) := List.pairwise_map.1 he.nodup
       obtain ⟨hil, ei⟩ := List.getElem?_eq_some_iff.1 hi
       obtain ⟨hjl, ej⟩ := List.getElem?_eq_some_iff.1 hp
       rcases Nat.lt_or_gt_of_ne e with h | h
       ·have := List.pairwise_iff_getElem.1 hpw j i hjl hil h; rw [ei, ej] at this; exact this (hps.trans eq.symm)
       ·have := List.pairwise_iff_getElem.1 hpw i j hil hjl h; rw [ei, ej] at this; exact this (eq.trans hps.symm)
      simp [hne]
   refine ⟨?_, ?_, ?_, ?_, zdx he.nodup, by simpa using he.size⟩
   ·rw [hlist, hput, List.map_set, List.map_set, he.kv]
   ·intro x hx
    rw [hlist] at hx
    rcases List.mem_or_eq_of_mem_set hx with hx | rfl
    ·exact he.born x hx
    ·exact he.born e0 (List.mem_of_getElem? h2)
   ·rw [hlist, List.map_set]
    have : (es.toList.map (·.born)).set j e0.born = es.toList.map (·.born) := by
     apply List.ext_getElem?
     intro i
     rw [List.getElem?_set]
     by_cases e : j = i
     ·subst e
      have hjl : j < es.toList.length := (List.getElem?_eq_some_iff.1 h2).1
      simp only [List.length_map, hjl, if_true, List.getElem?_map, h2, Option.map_some]
     ·rw [if_neg e]
    show ((es.toList.map (·.born)).set j e0.born).Nodup
    rw [this]; exact he.once
   ·intro q hq
    rcases mem_putM hq with rfl | ⟨hq, _⟩
    ·exact hs
    ·exact he.wf q hq
theorem run_delM (ok : M.Ok) {w : World} {b : Nat} {L : List (α × β)} {es : Array MapEntry} {clock : Nat} (hb : w.heap[b]? = some (.map es clock)) (he : MEnts M es clock L) {s : α} (hs : M.wf s) (ty : TypeId) :
  ∃ es', (Builtin.delete_ #[M.T, M.K] ty #[.map (some b), M.ke s]).run M.P w = .ok (.tuple #[]) (setBlock w b (.map es' clock)) /\ MEnts M es' clock (zcj L s) /\ (∀ e, e ∈ es'.toList ↔ e ∈ es.toList /\ e.key ≠ M.ke s) := by
 obtain ⟨kl, hkl⟩ := ok.key s hs
 rcases ok.law.find w hkl es.toList (he.keys ok) with ⟨h1, h2⟩ | ⟨j, e0, h1, h2, h3⟩
 ·have hg : s ∉ zaj L := he.absent h2
  have hd : zcj L s = L := by
   unfold zcj; rw [List.filter_eq_self]
   intro p hp; simp; intro e; exact hg (List.mem_map.2 ⟨p, hp, e⟩)
  refine ⟨es, ?_, by rw [hd]; exact he, fun e => ⟨fun h => ⟨h, h2 e h⟩, fun h => h.1⟩⟩
  simp [Builtin.delete_, run_underlying ok.und, MapKept.run_getObj_map hb, ok.law.check w _ hkl, h1, MapKept.run_setObj_map _ hb, Result.andThen, setBlock]
 ·obtain ⟨p, hp, hk, hv⟩ := he.at h2
  have hps : p.1 = s := ok.inj _ _ (hk.symm.trans h3)
  have hjl : j < es.toList.length := (List.getElem?_eq_some_iff.1 h2).1
  have hjs : j < es.size := by simpa using hjl
  have hsub : (es.eraseIdxIfInBounds j).toList = es.toList.eraseIdx j := by
   unfold Array.eraseIdxIfInBounds
   rw [dif_pos hjs]
   simp
  have hpw : L.Pairwise (fun a b => a.1 ≠ b.1) := List.pairwise_map.1 he.nodup
  have hjL : j < L.length := (List.getElem?_eq_some_iff.1 hp).1
  have hkeyj : ∀ i q, L[i]? = some q -> i ≠ j -> q.1 ≠ s := fun i q hi hne eq => by
   obtain ⟨hil, ei⟩ := List.getElem?_eq_some_iff.1 hi
   obtain ⟨_, ej⟩ := List.getElem?_eq_some_iff.1 hp
   rcases Nat.lt_or_gt_of_ne hne with h | h
   ·have := List.pairwise_iff_getElem.1 hpw i j hil hjL h; rw [ei, ej] at this; exact this (eq.trans hps.symm)
   ·have := List.pairwise_iff_getElem.1 hpw j i hjL hil h; rw [ei, ej] at this; exact this (hps.trans eq.symm)
  have hd : zcj L s = L.eraseIdx j := by
   have e1 : L = L.take j ++ p :: L.drop (j + 1) := by
    obtain ⟨hjl', ej⟩ := List.getElem?_eq_some_iff.1 hp
    rw [<- ej, <- List.drop_eq_getElem_cons hjl']; exact (List.take_append_drop j L).symm
   have t1 : ∀ q ∈ L.take j, q.1 ≠ s := fun q hq => by
    obtain ⟨i, hi, ei⟩ := List.getElem_of_mem hq
    have hi' : i < j := by simp at hi; omega
    exact hkeyj i q (by rw [<- ei]; simp [List.getElem_take]) (by omega)
   have t2 : ∀ q ∈ L.drop (j + 1), q.1 ≠ s := fun q hq => by
    obtain ⟨i, hi, ei⟩ := List.getElem_of_mem hq
    exact hkeyj (j + 1 + i) q (by rw [<- ei]; simp at hi ⊢) (by omega)
   rw [List.eraseIdx_eq_take_drop_succ]
   unfold zcj
   conv => lhs; rw [e1]
   rw [List.filter_append, List.filter_cons_of_neg (by simp [hps]), List.filter_eq_self.2 (fun q hq => by simpa using t1 q hq), List.filter_eq_self.2 (fun q hq => by simpa using t2 q hq)]
  refine ⟨es.eraseIdxIfInBounds j, ?_, ⟨?_, ?_, ?_, ?_, zdj he.nodup, ?_⟩, ?_⟩
  ·simp [Builtin.delete_, run_underlying ok.und, MapKept.run_getObj_map hb, ok.law.check w _ hkl, h1, MapKept.run_setObj_map _ hb, Result.andThen, setBlock]
  ·rw [hsub, hd, Go.ChangeMaps.map_eraseIdx, Go.ChangeMaps.map_eraseIdx, he.kv]
  ·intro x hx; rw [hsub] at hx; exact he.born x ((List.eraseIdx_sublist _ _).subset hx)
  ·rw [hsub]; exact he.once.sublist ((List.eraseIdx_sublist _ _).map _)
  ·intro q hq; exact he.wf q (zbh.1 hq).1
  ·have := MapFrom.size_erase es j; have := he.size; omega
  ·intro e
   rw [hsub]
   constructor
   ·intro h
    refine ⟨(List.eraseIdx_sublist _ _).subset h, fun ek => ?_⟩
    obtain ⟨i, hne, hi⟩ := List.mem_eraseIdx_iff_getElem?.1 h
    obtain ⟨q, hq, hqk, _⟩ := he.at hi
    exact hkeyj i q hq hne (ok.inj _ _ (hqk.symm.trans ek))
   ·rintro ⟨h, ek⟩
    obtain ⟨i, hi⟩ := List.mem_iff_getElem?.1 h
    refine List.mem_eraseIdx_iff_getElem?.2 ⟨i, fun e2 => ?_, hi⟩
    subst e2
    rw [h2] at hi
    cases hi
    exact ek h3
end
end Go.Proofs.YtpbimdkclnekeaaGreat

namespace Go.Proofs.YtpbimdkclnekeaaGreat
open Go.RowKit
set_option linter.unusedVariables false
def SeqO {α : Type} (F : Fence) (n : Nat) (P : Program) (g : Nat) (lb : Array Value) (encs : α -> Array Value) (Kp : World -> World -> Prop) (S Sp : List α -> Prop) (N m : Nat) (w : World) : Prop :=
 ∀ (l : Nat) (J Jx : List α -> World -> Prop) (W : World), Below w.heap.size w W -> m <= W.heap.size -> OwnFrom W.heap.size J -> OwnFrom W.heap.size Jx ->
  (∀ pre x V, J pre V -> pre.length < N -> YieldAt F (n - 1) P l (encs x) V fun e V' => (e = .returned (.bool true) /\ J (pre ++ [x]) V' /\ Kp V V') \/ (e = .returned (.bool false) /\ Jx (pre ++ [x]) V' /\ Kp V V')) ->
  J [] W -> CallsIn F n P g (#[.func (.yield l) #[] #[]] ++ lb) W fun e V => (∃ v, e = .returned v) /\ ((∃ xs, S xs /\ J xs V) \/ ∃ pre, Sp pre /\ Jx pre V)
theorem own_abides {β : Type} {B : Nat} {J : β -> World -> Prop} (h : OwnFrom B J) : AbidesFrom B J := fun s W W' row hs hg hr =>
 h s W W' row hs hg (fun r e => by obtain ⟨h1, o, h2, h3⟩ := hr r e; exact ⟨h1, o, h2, Obj.not_cells_of_walk h3⟩)
theorem SeqO.of {α : Type} {F : Fence} {n : Nat} {P : Program} {g : Nat} {lb : Array Value} {encs : α -> Array Value} {Kp : World -> World -> Prop} {S Sp : List α -> Prop} {N m : Nat} {w : World} (h : SeqStopsK F n P g lb encs Kp S Sp N w) : SeqO F n P g lb encs Kp S Sp N m w :=
 fun l J Jx W hW _ hJ hJx hY h0 => h l J Jx W hW (own_abides hJ) (own_abides hJx) (fun pre x V hv hl => (hY pre x V hv hl).mono fun e V' hh => hh.imp id (fun ⟨a, b, _⟩ => ⟨a, b⟩)) h0
theorem SeqO.keeps {α : Type} {F : Fence} {n : Nat} {P : Program} {g : Nat} {lb : Array Value} {encs : α -> Array Value} {Kp Kq : World -> World -> Prop} {S Sp : List α -> Prop} {N m : Nat} {w : World} (h : SeqO F n P g lb encs Kp S Sp N m w) (hk : ∀ A B, Kq A B -> Kp A B) : SeqO F n P g lb encs Kq S Sp N m w :=
 fun l J Jx W hW hm hJ hJx hY h0 => h l J Jx W hW hm hJ hJx (fun pre x V hv hl => (hY pre x V hv hl).mono fun e V' hh => hh.imp (fun ⟨a, b, c⟩ => ⟨a, b, hk _ _ c⟩) (fun ⟨a, b, c⟩ => ⟨a, b, hk _ _ c⟩)) h0
theorem SeqO.inRound {α : Type} {F : Fence} {n : Nat} {P : Program} {g : Nat} {lb : Array Value} {encs : α -> Array Value} {Kp : World -> World -> Prop} {S Sp : List α -> Prop} {N m : Nat} {w : World} (l : Nat) (h : SeqO F n P g lb encs Kp S Sp N m w) : SeqO (F.inRound l) n P g lb encs Kp S Sp N m w := h
def ownPostX {α : Type} (B : Nat) (Kp : World -> World -> Prop) (I : List α -> World -> Prop) (Ix : Code -> List α -> World -> Prop) (xs : List α) (W : World) (e : Exit) (_ : Act) (W' : World) : Prop :=
 KeepsFrom B W W' /\ Kp W W' /\ match e with
 | .normal => I xs W'
 | .ret => Ix .ret xs W'
 | .exit id => Ix (.exit id) xs W'
 | .goto t => Ix (.goto t) xs W'
 | .panic _ => False
 | .outgrown => False
theorem grown_at {W W' : World} {row : Option Nat} {B k : Nat} {o : Obj} (hg : W.grownBy W' row) (hr : ∀ r, row = some r -> B <= r) (hk : k < B) (h : W.heap[k]? = some o) : W'.heap[k]? = some o :=
 (hg.block k (zaa h) (fun e => by have := hr k e.symm; omega)).trans h
section
variable {α : Type} {F : Fence} {n : Nat} {P : Program} {ps : Array Tmp} {assign body : Code} {encs : α -> Array Value} {Kp : World -> World -> Prop} {N : Nat}
theorem round_O (B l fn df : Nat) (tmps : Array Value) (hF : F.fn fn) (hBl : B <= l) (hps : ∀ x, (encs x).size = ps.size) (E : World -> Prop) (hE : ∀ W W', E W -> KeepsFrom B W W' -> E W') (hEl : ∀ W o, E W -> E (W.putObj l o))
  (hKt : ∀ {X Y Z : World}, Kp X Y -> Kp Y Z -> Kp X Z) (hKb : ∀ (W : World) (o o' : Obj), W.heap[l]? = some o -> o.isCells = false -> o.isWalk = false -> Kp W (W.putObj l o'))
  (I : List α -> World -> Prop) (Ix : Code -> List α -> World -> Prop) (hI : OwnFrom B I) (hIx : ∀ c, OwnFrom B (Ix c)) (Ax : α -> Act -> World -> Prop) (hAx : ∀ x a', OwnFrom B (fun (_ : Unit) W => Ax x a' W))
  (hassign : ∀ (pre : List α) (x : α) (W : World) (K : Act -> World -> Prop), I pre W -> (∀ a' W', KeepsFrom B W W' -> Kp W W' -> I pre W' -> Ax x a' W' -> K a' W') ->
   assign.wpIn (F.inRound l) n P (Exit.then K (fun _ _ _ => False)) { tmps := (ps.zip (encs x)).foldl (fun t (p, v) => t.setIfInBounds p v) tmps, defers := [] } W)
  (hbody : ∀ (pre : List α) (x : α) (a' : Act) (W : World), (∃ r : Loop, W.heap[l]? = some (.loop r) /\ r.defers = df) -> I pre W -> Ax x a' W -> pre.length < N -> body.wpIn (F.inRound l) n P (ownPostX B Kp I Ix (pre ++ [x]) W) a' W)
  (pre : List α) (x : α) (W : World) (hi : I pre W) (hl : W.heap[l]? = some (.loop { state := .ready, pending := none, fn, tmps, params := ps, assign, body, defers := df })) (he : E W) (hlen : pre.length < N) :
  YieldAt F n P l (encs x) W fun e V => (e = .returned (.bool true) /\ (I (pre ++ [x]) V /\ V.heap[l]? = some (.loop { state := .ready, pending := none, fn, tmps, params := ps, assign, body, defers := df }) /\ E V) /\ Kp W V) \/
   (e = .returned (.bool false) /\ (∃ c, Ix c (pre ++ [x]) V /\ V.heap[l]? = some (.loop { state := .done, pending := some c, fn, tmps, params := ps, assign, body, defers := df }) /\ E V) /\ Kp W V) := by
 refine ⟨fn, _, assign, body, run_yield (P := P) (args := encs x) hl (hps x), roundIn_of_wpIn hF (hassign pre x W _ hi fun a' X hkX hpX hiX haX => ?_)⟩
 have hlX := hkX.same l _ hBl hl rfl
 have heX := hE _ _ he hkX
 refine ⟨_, run_beginRound hlX rfl, wpIn_mono (hbody pre x a' _ ⟨_, World.putObj_heap_same (zaa hlX), rfl⟩ (hI.putObj _ hiX hBl hlX rfl) ((hAx x a').putObj (s := ()) _ haX hBl hlX rfl) hlen) ?_⟩
 have hb := World.putObj_heap_same (o := .loop { state := .busy, pending := none, fn, tmps, params := ps, assign, body, defers := df }) (zaa hlX)
 have hend : ∀ V, KeepsFrom B (X.putObj l (.loop { state := .busy, pending := none, fn, tmps, params := ps, assign, body, defers := df })) V -> V.heap[l]? = some (.loop { state := .busy, pending := none, fn, tmps, params := ps, assign, body, defers := df }) /\ E V :=
  fun V hV => ⟨hV.same l _ hBl hb rfl, hE _ _ (hEl _ _ heX) hV⟩
 have leave : ∀ c V, KeepsFrom B (X.putObj l (.loop { state := .busy, pending := none, fn, tmps, params := ps, assign, body, defers := df })) V -> Ix c (pre ++ [x]) V ->
   Ix c (pre ++ [x]) (V.putObj l (.loop { state := .done, pending := some c, fn, tmps, params := ps, assign, body, defers := df })) /\ (V.putObj l (.loop { state := .done, pending := some c, fn, tmps, params := ps, assign, body, defers := df })).heap[l]? = some (.loop { state := .done, pending := some c, fn, tmps, params := ps, assign, body, defers := df }) /\ E (V.putObj l (.loop { state := .done, pending := some c, fn, tmps, params := ps, assign, body, defers := df })) := fun c V hV hx => by
  obtain ⟨h1, h2⟩ := hend V hV
  exact ⟨(hIx c).putObj _ hx hBl h1 rfl, World.putObj_heap_same (zaa h1), hEl _ _ h2⟩
 have kp : ∀ V o', Kp (X.putObj l (.loop { state := .busy, pending := none, fn, tmps, params := ps, assign, body, defers := df })) V -> V.heap[l]? = some (.loop { state := .busy, pending := none, fn, tmps, params := ps, assign, body, defers := df }) -> Kp W (V.putObj l o') := fun V o' hKV h1 => hKt hpX (hKt (hKt (hKb _ _ _ hlX rfl rfl) hKV) (hKb _ _ _ h1 rfl rfl))
 intro e a3 V hp
 match e, hp with
 | .normal, ⟨hV, hKV, hiV⟩ =>
  obtain ⟨h1, h2⟩ := hend V hV
  exact ⟨_, _, run_endRound (P := P) none h1, .inl ⟨rfl, ⟨hI.putObj _ hiV hBl h1 rfl, World.putObj_heap_same (zaa h1), hEl _ _ h2⟩, kp V _ hKV h1⟩⟩
 | .ret, ⟨hV, hKV, hx⟩ => exact ⟨_, _, run_endRound (P := P) (some .ret) (hend V hV).1, .inr ⟨rfl, ⟨.ret, leave .ret V hV hx⟩, kp V _ hKV (hend V hV).1⟩⟩
 | .exit id, ⟨hV, hKV, hx⟩ => exact ⟨_, _, run_endRound (P := P) (some (.exit id)) (hend V hV).1, .inr ⟨rfl, ⟨.exit id, leave (.exit id) V hV hx⟩, kp V _ hKV (hend V hV).1⟩⟩
 | .goto t, ⟨hV, hKV, hx⟩ => exact ⟨_, _, run_endRound (P := P) (some (.goto t)) (hend V hV).1, .inr ⟨rfl, ⟨.goto t, leave (.goto t) V hV hx⟩, kp V _ hKV (hend V hV).1⟩⟩
 | .panic ch, hp => exact hp.2.2.elim
 | .outgrown, hp => exact hp.2.2.elim
end
section
variable {α : Type} {F : Fence} {n : Nat} {P : Program} {g : Operand} {ps : Array Tmp} {assign body : Code} {Q : Exit -> Act -> World -> Prop} {a : Act} {w : World}
theorem range_O (hro : F.round = none) (h1 : 1 <= n) {gf : Nat} {lb : Array Value} (hg : a.eval g = .func (.func gf) #[] lb) (hFg : F.fn gf) (eg : ∀ args w, (callFunc gf args).run P w = .ok (.enter gf args) w)
  {encs : α -> Array Value} {Kp : World -> World -> Prop} {S Sp : List α -> Prop} {N m : Nat} {w0 : World} (hseq : SeqO F (n - 1) P gf lb encs Kp S Sp N m w0) (hm : m <= w.heap.size + 2)
  (hKt : ∀ {X Y Z : World}, Kp X Y -> Kp Y Z -> Kp X Z) (hKb : ∀ (W : World) (o o' : Obj), W.heap[w.heap.size + 1]? = some o -> o.isCells = false -> o.isWalk = false -> Kp W (W.putObj (w.heap.size + 1) o')) (hb0 : Below w0.heap.size w0 w) (hps : ∀ x, (encs x).size = ps.size)
  (I : List α -> World -> Prop) (Ix : Code -> List α -> World -> Prop) (hI : OwnFrom w.heap.size I) (hIx : ∀ c, OwnFrom w.heap.size (Ix c)) (h0 : I [] w) (Ax : α -> Act -> World -> Prop) (hAx : ∀ x a', OwnFrom w.heap.size (fun (_ : Unit) W => Ax x a' W))
  (hassign : ∀ (l : Nat) (pre : List α) (x : α) (W : World) (K : Act -> World -> Prop), I pre W -> (∀ a' W', KeepsFrom w.heap.size W W' -> Kp W W' -> I pre W' -> Ax x a' W' -> K a' W') ->
   assign.wpIn (F.inRound l) (n - 1 - 1) P (Exit.then K (fun _ _ _ => False)) { tmps := (ps.zip (encs x)).foldl (fun t (p, v) => t.setIfInBounds p v) a.tmps, defers := [] } W)
  (hbody : ∀ (l : Nat) (pre : List α) (x : α) (a' : Act) (W : World), w.heap.size <= l -> (∃ r, W.heap[l]? = some (.loop r)) -> I pre W -> Ax x a' W -> pre.length < N -> body.wpIn (F.inRound l) (n - 1 - 1) P (ownPostX w.heap.size Kp I Ix (pre ++ [x]) W) a' W)
  (hdone : ∀ (D : Nat) (xs : List α) (W : World), w.heap.size <= D -> S xs -> I xs W -> W.heap[D]? = some (.deferred (some [])) -> Q .normal { a with defers := { target := .collected D, args := #[] } :: a.defers } W)
  (hstop : ∀ (D : Nat) (c : Code) (pre : List α) (W : World), w.heap.size <= D -> Sp pre -> Ix c pre W -> W.heap[D]? = some (.deferred (some [])) -> c.wpIn F n P Q { a with defers := { target := .collected D, args := #[] } :: a.defers } W) :
  (Code.rangeFunc g ps assign body).wpIn F n P Q a w := by
 refine wpIn_rangeFunc fun fn hfn => ?_
 rw [hro]
 have hz : ((w.alloc (.deferred (some []))).alloc (.loop { state := .ready, pending := none, fn, tmps := a.tmps, params := ps, assign, body, defers := w.heap.size })).heap.size = w.heap.size + 2 := by simp
 refine ⟨w.heap.size + 1, [{ target := .collected w.heap.size, args := #[] }], ((w.alloc (.deferred (some []))).alloc (.loop { state := .ready, pending := none, fn, tmps := a.tmps, params := ps, assign, body, defers := w.heap.size })), { target := .fn (.func gf) lb, args := #[.func (.yield (w.heap.size + 1)) #[] #[]] }, ((w.alloc (.deferred (some []))).alloc (.loop { state := .ready, pending := none, fn, tmps := a.tmps, params := ps, assign, body, defers := w.heap.size })), gf, #[.func (.yield (w.heap.size + 1)) #[] #[]] ++ lb, ((w.alloc (.deferred (some []))).alloc (.loop { state := .ready, pending := none, fn, tmps := a.tmps, params := ps, assign, body, defers := w.heap.size })), run_enterLoop_outer fn a.tmps ps assign body, by simp only [resolve, hg]; simp [go_sem], fun f' hf' => by simp [Target.leads] at hf'; subst hf'; exact hFg, by simp [invoke, go_sem, eg], fun _ => h1, ?_⟩
 have hD : ((w.alloc (.deferred (some []))).alloc (.loop { state := .ready, pending := none, fn, tmps := a.tmps, params := ps, assign, body, defers := w.heap.size })).heap[w.heap.size]? = some (.deferred (some [])) := (Below.heap_alloc _ _ _ (by simp)).trans (World.alloc_heap_new w _)
 have hL : ((w.alloc (.deferred (some []))).alloc (.loop { state := .ready, pending := none, fn, tmps := a.tmps, params := ps, assign, body, defers := w.heap.size })).heap[w.heap.size + 1]? = some (.loop { state := .ready, pending := none, fn, tmps := a.tmps, params := ps, assign, body, defers := w.heap.size }) := by
  have := World.alloc_heap_new (w.alloc (.deferred (some []))) (.loop { state := .ready, pending := none, fn, tmps := a.tmps, params := ps, assign, body, defers := w.heap.size }); rwa [World.size_alloc] at this
 have hB : Below w0.heap.size w0 ((w.alloc (.deferred (some []))).alloc (.loop { state := .ready, pending := none, fn, tmps := a.tmps, params := ps, assign, body, defers := w.heap.size })) := hb0.trans ((((Below.refl _ w).alloc (Nat.le_refl _) _).alloc (by simp) _).mono hb0.size)
 have hI0 := hI.alloc (.loop { state := .ready, pending := none, fn, tmps := a.tmps, params := ps, assign, body, defers := w.heap.size }) (hI.alloc (.deferred (some [])) h0)
 generalize ((w.alloc (.deferred (some []))).alloc (.loop { state := .ready, pending := none, fn, tmps := a.tmps, params := ps, assign, body, defers := w.heap.size })) = W1 at *
 refine (hseq (w.heap.size + 1)
  (fun pre W => I pre W /\ W.heap[w.heap.size + 1]? = some (.loop { state := .ready, pending := none, fn, tmps := a.tmps, params := ps, assign, body, defers := w.heap.size }) /\ W.heap[w.heap.size]? = some (.deferred (some [])))
  (fun pre W => ∃ c, Ix c pre W /\ W.heap[w.heap.size + 1]? = some (.loop { state := .done, pending := some c, fn, tmps := a.tmps, params := ps, assign, body, defers := w.heap.size }) /\ W.heap[w.heap.size]? = some (.deferred (some [])))
  W1 hB (by omega) (fun s X Y row hs hgr hr => ⟨hI s X Y row hs.1 hgr (fun r e => ⟨by have := (hr r e).1; omega, (hr r e).2⟩), grown_at hgr (fun r e => (hr r e).1) (by omega) hs.2.1, grown_at hgr (fun r e => (hr r e).1) (by omega) hs.2.2⟩)
  (fun s X Y row hs hgr hr => by
   obtain ⟨c, k1, k2, k3⟩ := hs
   exact ⟨c, hIx c s X Y row k1 hgr (fun r e => ⟨by have := (hr r e).1; omega, (hr r e).2⟩), grown_at hgr (fun r e => (hr r e).1) (by omega) k2, grown_at hgr (fun r e => (hr r e).1) (by omega) k3⟩)
  (fun pre x V hv hlen => ?_) ⟨hI0, hL, hD⟩).mono ?_
 ·obtain ⟨v1, v2, v3⟩ := hv
  exact round_O (P := P) (Kp := Kp) (n := n - 1 - 1) w.heap.size (w.heap.size + 1) fn w.heap.size a.tmps hfn (by omega) hps (fun W => W.heap[w.heap.size]? = some (.deferred (some []))) (fun W W' he hk => hk.same _ _ (Nat.le_refl _) he rfl) (fun W o he => (World.putObj_heap_other (by omega)).trans he)
   (fun h k => hKt h k) (fun W o o' => hKb W o o') I Ix hI hIx Ax hAx (fun pre x W K => hassign _ pre x W K) (fun pre x a' W ⟨r, hr, _⟩ => hbody _ pre x a' W (by omega) ⟨r, hr⟩) pre x V v1 v2 v3 hlen
 ·rintro e V ⟨⟨v, rfl⟩, (⟨xs, hS, k1, k2, k3⟩ | ⟨pre, hS, c, k1, k2, k3⟩)⟩
  ·exact ⟨none, _, run_endLoop (P := P) k2 (by simp), hdone _ xs _ (Nat.le_refl _) hS (hI.putObj _ k1 (by omega) k2 rfl) ((World.putObj_heap_other (by omega)).trans k3)⟩
  ·exact ⟨some c, _, run_endLoop (P := P) k2 (by simp), hstop _ c pre _ (Nat.le_refl _) hS ((hIx c).putObj _ k1 (by omega) k2 rfl) ((World.putObj_heap_other (by omega)).trans k3)⟩
theorem rangeN_O {l₀ : Nat} {r₀ : Loop} (hro : F.round = some l₀) (hl₀ : w.heap[l₀]? = some (.loop r₀)) (h1 : 1 <= n) {gf : Nat} {lb : Array Value} (hg : a.eval g = .func (.func gf) #[] lb) (hFg : F.fn gf) (eg : ∀ args w, (callFunc gf args).run P w = .ok (.enter gf args) w)
  {encs : α -> Array Value} {Kp : World -> World -> Prop} {S Sp : List α -> Prop} {N m : Nat} {w0 : World} (hseq : SeqO F (n - 1) P gf lb encs Kp S Sp N m w0) (hm : m <= w.heap.size + 1)
  (hKt : ∀ {X Y Z : World}, Kp X Y -> Kp Y Z -> Kp X Z) (hKb : ∀ (W : World) (o o' : Obj), W.heap[w.heap.size]? = some o -> o.isCells = false -> o.isWalk = false -> Kp W (W.putObj w.heap.size o')) (hb0 : Below w0.heap.size w0 w) (hps : ∀ x, (encs x).size = ps.size)
  (I : List α -> World -> Prop) (Ix : Code -> List α -> World -> Prop) (hI : OwnFrom w.heap.size I) (hIx : ∀ c, OwnFrom w.heap.size (Ix c)) (h0 : I [] w) (Ax : α -> Act -> World -> Prop) (hAx : ∀ x a', OwnFrom w.heap.size (fun (_ : Unit) W => Ax x a' W))
  (hassign : ∀ (l : Nat) (pre : List α) (x : α) (W : World) (K : Act -> World -> Prop), I pre W -> (∀ a' W', KeepsFrom w.heap.size W W' -> Kp W W' -> I pre W' -> Ax x a' W' -> K a' W') ->
   assign.wpIn (F.inRound l) (n - 1 - 1) P (Exit.then K (fun _ _ _ => False)) { tmps := (ps.zip (encs x)).foldl (fun t (p, v) => t.setIfInBounds p v) a.tmps, defers := [] } W)
  (hbody : ∀ (l : Nat) (pre : List α) (x : α) (a' : Act) (W : World), w.heap.size <= l -> (∃ r, W.heap[l]? = some (.loop r)) -> I pre W -> Ax x a' W -> pre.length < N -> body.wpIn (F.inRound l) (n - 1 - 1) P (ownPostX w.heap.size Kp I Ix (pre ++ [x]) W) a' W)
  (hdone : ∀ (xs : List α) (W : World), S xs -> I xs W -> Q .normal a W)
  (hstop : ∀ (c : Code) (pre : List α) (W : World), Sp pre -> Ix c pre W -> c.wpIn F n P Q a W) :
  (Code.rangeFunc g ps assign body).wpIn F n P Q a w := by
 refine wpIn_rangeFunc fun fn hfn => ?_
 rw [hro]
 have hz : (w.alloc (.loop { state := .ready, pending := none, fn, tmps := a.tmps, params := ps, assign, body, defers := r₀.defers })).heap.size = w.heap.size + 1 := by simp
 refine ⟨w.heap.size, [], (w.alloc (.loop { state := .ready, pending := none, fn, tmps := a.tmps, params := ps, assign, body, defers := r₀.defers })), { target := .fn (.func gf) lb, args := #[.func (.yield w.heap.size) #[] #[]] }, (w.alloc (.loop { state := .ready, pending := none, fn, tmps := a.tmps, params := ps, assign, body, defers := r₀.defers })), gf, #[.func (.yield w.heap.size) #[] #[]] ++ lb, (w.alloc (.loop { state := .ready, pending := none, fn, tmps := a.tmps, params := ps, assign, body, defers := r₀.defers })), run_enterLoop_inner hl₀ fn a.tmps ps assign body, by simp only [resolve, hg]; simp [go_sem], fun f' hf' => by simp [Target.leads] at hf'; subst hf'; exact hFg, by simp [invoke, go_sem, eg], fun _ => h1, ?_⟩
 have hL : (w.alloc (.loop { state := .ready, pending := none, fn, tmps := a.tmps, params := ps, assign, body, defers := r₀.defers })).heap[w.heap.size]? = some (.loop { state := .ready, pending := none, fn, tmps := a.tmps, params := ps, assign, body, defers := r₀.defers }) := World.alloc_heap_new w _
 have hB : Below w0.heap.size w0 (w.alloc (.loop { state := .ready, pending := none, fn, tmps := a.tmps, params := ps, assign, body, defers := r₀.defers })) := hb0.trans (((Below.refl _ w).alloc (Nat.le_refl _) _).mono hb0.size)
 have hI0 := hI.alloc (.loop { state := .ready, pending := none, fn, tmps := a.tmps, params := ps, assign, body, defers := r₀.defers }) h0
 generalize (w.alloc (.loop { state := .ready, pending := none, fn, tmps := a.tmps, params := ps, assign, body, defers := r₀.defers })) = W1 at *
 refine (hseq w.heap.size
  (fun pre W => I pre W /\ W.heap[w.heap.size]? = some (.loop { state := .ready, pending := none, fn, tmps := a.tmps, params := ps, assign, body, defers := r₀.defers }))
  (fun pre W => ∃ c, Ix c pre W /\ W.heap[w.heap.size]? = some (.loop { state := .done, pending := some c, fn, tmps := a.tmps, params := ps, assign, body, defers := r₀.defers }))
  W1 hB (by omega) (fun s X Y row hs hgr hr => ⟨hI s X Y row hs.1 hgr (fun r e => ⟨by have := (hr r e).1; omega, (hr r e).2⟩), grown_at hgr (fun r e => (hr r e).1) (by omega) hs.2⟩)
  (fun s X Y row hs hgr hr => by
   obtain ⟨c, k1, k2⟩ := hs
   exact ⟨c, hIx c s X Y row k1 hgr (fun r e => ⟨by have := (hr r e).1; omega, (hr r e).2⟩), grown_at hgr (fun r e => (hr r e).1) (by omega) k2⟩)
  (fun pre x V hv hlen => ?_) ⟨hI0, hL⟩).mono ?_
 ·obtain ⟨v1, v2⟩ := hv
  refine (round_O (P := P) (Kp := Kp) (n := n - 1 - 1) w.heap.size w.heap.size fn r₀.defers a.tmps hfn (Nat.le_refl _) hps (fun _ => True) (fun _ _ _ _ => trivial) (fun _ _ _ => trivial)
   (fun h k => hKt h k) (fun W o o' => hKb W o o') I Ix hI hIx Ax hAx (fun pre x W K => hassign _ pre x W K) (fun pre x a' W ⟨r, hr, _⟩ => hbody _ pre x a' W (Nat.le_refl _) ⟨r, hr⟩) pre x V v1 v2 trivial hlen).mono ?_
  rintro e V' (⟨e1, ⟨k1, k2, _⟩, k3⟩ | ⟨e1, ⟨c, k1, k2, _⟩, k3⟩)
  ·exact .inl ⟨e1, ⟨k1, k2⟩, k3⟩
  ·exact .inr ⟨e1, ⟨c, k1, k2⟩, k3⟩
 ·rintro e V ⟨⟨v, rfl⟩, (⟨xs, hS, k1, k2⟩ | ⟨pre, hS, c, k1, k2⟩)⟩
  ·exact ⟨none, _, run_endLoop (P := P) k2 (by simp), hdone xs _ hS (hI.putObj _ k1 (Nat.le_refl _) k2 rfl)⟩
  ·exact ⟨some c, _, run_endLoop (P := P) k2 (by simp), hstop c pre _ hS ((hIx c).putObj _ k1 (Nat.le_refl _) k2 rfl)⟩
end
theorem yield_deep {F : Fence} (hd : F.depth = none) {m m' : Nat} {P : Program} {l : Nat} {args : Array Value} {W : World} {R : Ending -> World -> Prop} (h : YieldAt F m P l args W R) : YieldAt F m' P l args W R := by
 obtain ⟨fn, tmps, assign, body, hy, h1, h2⟩ := h
 exact ⟨fn, tmps, assign, body, hy, h1, fun c cs _ => h2 c cs (fun d e => by rw [hd] at e; cases e)⟩
structure KX (ex : Nat -> Prop) (n m : Nat) (A B : World) : Prop where
 kept : zan (fun k => ex k \/ n <= k) A B
 walk : ∀ k o, ¬ ex k -> A.heap[k]? = some o -> o.isWalk = true -> B.heap[k]? = some o
 high : ∀ k o, m <= k -> A.heap[k]? = some o -> B.heap[k]? = some o
section
variable {ex : Nat -> Prop} {n m : Nat}
theorem KX.refl (ex : Nat -> Prop) (n m : Nat) (A : World) : KX ex n m A A := ⟨zan.refl _ _, fun _ _ _ h _ => h, fun _ _ _ h => h⟩
theorem KX.trans {A B C : World} (h : KX ex n m A B) (k : KX ex n m B C) : KX ex n m A C := ⟨h.kept.trans k.kept (fun _ _ h => h), fun i o hx hi ho => k.walk i o hx (h.walk i o hx hi ho) ho, fun i o hx hi => k.high i o hx (h.high i o hx hi)⟩
theorem KX.putObj {W : World} {l : Nat} {o : Obj} (o' : Obj) (hl : n <= l) (hm : l < m) (h : W.heap[l]? = some o) (ho : o.isWalk = false) : KX ex n m W (W.putObj l o') :=
 ⟨(zan.refl _ _).grown (grownBy_putObj' W l o') (fun k e _ => by cases e; exact .inr hl), fun k p hx hk hp => by
  by_cases e : k = l
  ·subst e; rw [h] at hk; cases hk; rw [ho] at hp; cases hp
  ·exact (World.putObj_heap_other e).trans hk, fun k p hx hk => (World.putObj_heap_other (show k ≠ l by omega)).trans hk⟩
theorem KX.of_below {A B : World} (h : Below A.heap.size A B) : KX ex n m A B := ⟨zan.of_below h, fun k o _ hk _ => (h.block k (zaa hk)).trans hk, fun k o _ hk => (h.block k (zaa hk)).trans hk⟩
theorem KX.setCell {W : World} {g i : Nat} {v : Value} (hn : n <= g) (hm : g < m) : KX ex n m W (W.setCell ⟨g, i, none⟩ v) :=
 ⟨(zan.refl _ _).setCell (p := ⟨g, i, none⟩) (fun _ => .inr hn) v, fun k o _ hk ho => (KeepsOthers.setCell W ⟨g, i, none⟩ v).same k o hk (Obj.not_cells_of_walk ho), fun k o hx hk => (Below.heap_setCell _ _ _ _ (show k ≠ g by omega)).trans hk⟩
theorem KX.wider {m' : Nat} {A B : World} (h : KX ex n m A B) (hm : m <= m') : KX ex n m' A B := ⟨h.kept, h.walk, fun k o hx => h.high k o (Nat.le_trans hm hx)⟩
theorem KX.own {q : Nat} {w : World} {β : Type} (hq : w.heap.size <= q) : OwnFrom q (fun (_ : β) W => KX ex n m w W) := fun s X Y row hs hg hr =>
 have hold : ∀ k o, w.heap[k]? = some o -> X.heap[k]? = some o -> Y.heap[k]? = some o := fun k o hk hX => (hg.block k (zaa hX) (fun e => by have := (hr k e.symm).1; have := zaa hk; omega)).trans hX
 ⟨hs.kept.trans (g := fun k => q <= k) ⟨hg.os, hg.tape, hg.output, hg.size, fun k hk hn => hg.block k hk (fun e => hn (hr k e.symm).1)⟩ (fun k hk e => by omega), fun k o hx hk ho => hold k o hk (hs.walk k o hx hk ho), fun k o hx hk => hold k o hk (hs.high k o hx hk)⟩
theorem KX.from {A B : World} (h : KX ex n m A B) {q : Nat} (hq : m <= q) : KeepsFrom q A B := ⟨h.kept.size, fun k o hk h0 _ => h.high k o (Nat.le_trans hq hk) h0⟩
theorem KX.low {A B : World} (h : KX ex n m A B) {k : Nat} (hk : k < n) (hx : ¬ ex k) (hl : k < A.heap.size) : B.heap[k]? = A.heap[k]? := h.kept.block k hl (fun e => e.elim hx (by omega))
end
def SeqF {α : Type} (ex : Nat -> Prop) (n : Nat) (P : Program) (g : Nat) (lb : Array Value) (encs : α -> Array Value) (S : List α -> Prop) (N : Nat) (w : World) : Prop :=
 ∀ m, w.heap.size <= m -> SeqO Fence.wide 6 P g lb encs (KX ex n m) S (fun _ => True) N m w
section
variable {P : Program} {ops : Array Oper} {md : Region.Mode} {w : World} {n : Nat} {l : Nat}
theorem still_not_defer {o : Oper} {a : Act} {K : Act -> Prop} (h : o.still P a w K) : ∀ c, o.op ≠ .defer c := fun c hc => by
 unfold Oper.still execOp at h
 rw [hc] at h
 simp only [Oper.stillUpon] at h
 revert h
 generalize hr : (resolve a.eval c o.type).run P w = r
 cases r with
 | ok d w' => simp [hr]
 | halt x w' => simp [hr]
theorem wpIn_of_still {o : Oper} {a : Act} {K : Act -> Prop} {K' : Act -> World -> Prop} {Q' : Exit -> Act -> World -> Prop} (h : ∀ a, K a -> K' a w) (hh : o.still P a w K) : o.wpIn (Fence.wide.inRound l) n P a w K' Q' := by
 have hnd := still_not_defer hh
 unfold Oper.still at hh
 unfold Oper.wpIn
 refine ⟨fun _ _ => trivial, ?_⟩
 rw [Oper.semAt_eq _ _ _ hnd]
 generalize (execOp a.eval o).run P w = r at *
 cases r with
 | ok k w' =>
  cases k <;> simp only [Oper.stillUpon] at hh <;> simp only [Oper.uponIn]
  case enter f args =>
   obtain ⟨rfl, v, hc, hn⟩ := hh
   exact ⟨fun e => by simp [Fence.inRound, Fence.wide] at e, (CallsIn.inRound l (callsIn_wide.2 hc)).mono fun e w'' ⟨he, hw⟩ => by subst he; subst hw; exact h _ hn⟩
  all_goals (obtain ⟨rfl, h2⟩ := hh; exact h _ h2)
 | halt x w' => simp only [Oper.stillUpon] at hh
theorem wpOpIn_of_st {i : Nat} {a : Act} {K : Act -> Prop} {K' : Act -> World -> Prop} {Q' : Exit -> Act -> World -> Prop} (h : ∀ a, K a -> K' a w) (hh : stOp P ops w i K a) : wpOpIn (Fence.wide.inRound l) n P ops Q' i K' a w := by
 unfold stOp at hh
 unfold wpOpIn
 split
 ·rename_i ho; simp only [ho] at hh; exact h _ hh
 ·rename_i o ho
  simp only [ho] at hh
  split
  ·rename_i hw; simp only [hw, if_true] at hh; exact wpIn_of_still h hh
  ·rename_i hw; simp only [hw] at hh; exact ⟨fun _ _ => trivial, h _ hh⟩
theorem anyIn_of_head {k g : Nat} {L : Array Bool -> Act -> Prop} {Q' : Exit -> Act -> World -> Prop} (hL : ∀ listed a, L listed a -> wpAnyIn (Fence.wide.inRound l) n P md ops Q' g listed a w) :
  ∀ (f : Nat) (listed : Array Bool) (a : Act), wpAnyL P md ops w k L f listed a -> wpAnyIn (Fence.wide.inRound l) n P md ops Q' (f + g) listed a w
 | 0, listed, a, h => by rw [Nat.zero_add]; exact hL _ _ h
 | f + 1, listed, a, h => by
  rw [show f + 1 + g = (f + g) + 1 by omega]
  exact ⟨fun h0 => absurd h0 h.1, fun i hi => wpOpIn_of_st (fun a' h' => anyIn_of_head hL f _ a' h') (h.2 i hi).2⟩
theorem anyIn_of_seq {F : Fence} {Q' : Exit -> Act -> World -> Prop} : ∀ (ls : List Oper) (k : Nat) (listed : Array Bool) (a : Act) (w : World), (∀ j, ls[j]? = ops[k + j]?) ->
  Region.seqB md ops ls.length k listed = true -> wpListIn F n P ops Q' ls a w -> wpAnyIn F n P md ops Q' ls.length listed a w
 | [], _, _, _, _, _, hB, h => ⟨by simpa [Region.seqB] using hB, h⟩
 | o :: ls, k, listed, a, w, hl, hB, h => by
  have h0 : ops[k]? = some o := by simpa using (hl 0).symm
  simp only [List.length_cons, Region.seqB, Bool.and_eq_true, decide_eq_true_eq] at hB
  refine ⟨fun h1 => (by rw [hB.1] at h1; cases h1), fun i hi => ?_⟩
  rw [hB.1] at hi
  have hik : i = k := by simpa using hi
  subst hik
  have hw : wpOpIn F n P ops Q' i (wpListIn F n P ops Q' ls) a w := by unfold wpOpIn; simp only [h0]; exact h
  exact wpOpIn_mono (fun a' w' h' => anyIn_of_seq ls (i + 1) _ a' w' (fun j => by have := hl (j + 1); simpa [Nat.add_assoc, Nat.add_comm 1 j] using this) hB.2 h') hw
theorem region_tail_in {id : Nat} {Q : Exit -> Act -> World -> Prop} {a : Act} {w : World} {ls : List Oper} (k : Nat) (hm : P.follows .mixedOrders = true) (hB : Region.lexTailB .any ls.toArray k = true)
  (h : wpStill P ls.toArray w.drew (fun a' => wpListIn (Fence.wide.inRound l) n P ls.toArray Q (ls.drop k) a' w.drew) (ls.take k) a) : (Code.region id ls.toArray true).wpIn (Fence.wide.inRound l) n P Q a w := by
 simp only [Region.lexTailB, Bool.and_eq_true, decide_eq_true_eq] at hB
 obtain ⟨⟨⟨⟨hsel, hn⟩, hs⟩, hc⟩, hlex⟩ := hB
 have hn' : k < ls.length := by simpa using hn
 have htl : (ls.take k).length = k := by simp; omega
 have hdl : (ls.drop k).length = ls.toArray.size - k := by simp
 have inv0 : HeadInv .any ls.toArray k (Array.replicate ls.toArray.size false) :=
  ⟨by simp, fun j oj _ hl => (by rw [getD_replicate_false] at hl; cases hl), fun t _ ht => getD_in (by simpa using ht) (getD_replicate_false _ _)⟩
 have H := wpAnyL_lex (md := .any) (g := ls.toArray.size - k) hsel hs hc hn (ls.take k) 0 _ a (fun j hj => by
  have hj' : j < k := by rw [htl] at hj; exact hj
  simp [hj']) (by simpa using htl) inv0 (by rw [htl]; exact hlex) h
 refine wpIn_region_any hm ?_
 have := anyIn_of_head (l := l) (n := n) (Q' := Q) (g := ls.toArray.size - k) (fun listed a' hL => by
  have := anyIn_of_seq (F := Fence.wide.inRound l) (n := n) (md := .any) (Q' := Q) (ls.drop k) k listed a' w.drew (fun j => by simp [List.getElem?_drop]) (by rw [hdl]; exact hL.1) hL.2
  rwa [hdl] at this) _ _ _ H
 rw [htl, show k + (ls.toArray.size - k) = ls.toArray.size by omega] at this
 exact this
theorem zes {id : Nat} {Q : Exit -> Act -> World -> Prop} {a : Act} {w : World} {ls : List Oper} (k : Nat) (hm : P.follows .mixedOrders = true) (hB : Region.lexTailB .any ls.toArray k = true)
  (h : wpStill P ls.toArray w.drew (fun a' => wpList P ls.toArray Q (ls.drop k) a' w.drew) (ls.take k) a) : (Code.region id ls.toArray true).wp P Q a w := wp_region_still_tail k hm hB h
end
end Go.Proofs.YtpbimdkclnekeaaGreat
