import Derived.Test.YtpbimdkclnekeaaGreatQDisk0
import Derived.Maps.Keyed
import Derived.Maps.RangeRun
import Derived.RangeFuncOwn
import Derived.WalkKit
import Derived.Test.YtpbimdkclnekeaaGreatQConf0

namespace Go.Proofs.YtpbimdkclnekeaaGreat
open Go.RowKit Go.Maps
open Go.ChangeMaps (setBlock modify_eq_set)
set_option linter.unusedVariables false

/-- a map's types, and how its keys and elements are written. -/
structure MK (α β : Type) where
  P : Program
  T : TypeId
  K : TypeId
  E : TypeId
  ke : α → Value
  ve : β → Value
  wf : α → Prop
  z : Value
structure MK.Ok {α β : Type} (M : MK α β) : Prop where
  law : Keyed M.P M.K
  und : M.P.underlying M.T = some (.map M.K M.E)
  key : ∀ a, M.wf a → ∃ kl, keyOf M.P M.K (M.ke a) = some kl
  inj : ∀ a b, M.ke a = M.ke b → a = b
  zero : ∀ w, (zeroValue M.E).run M.P w = .ok M.z w

section
variable {α β : Type}
def keysM (L : List (α × β)) : List α := L.map (·.1)

/-- a map's entries are this list. -/
structure MEnts (M : MK α β) (es : Array MapEntry) (clock : Nat) (L : List (α × β)) : Prop where
  kv : es.toList.map (fun e => (e.key, e.val)) = L.map (fun p => (M.ke p.1, M.ve p.2))
  born : ∀ e ∈ es.toList, e.born < clock
  once : (es.toList.map (·.born)).Nodup
  wf : ∀ p ∈ L, M.wf p.1
  nodup : (keysM L).Nodup
  size : es.size ≤ maxLen
def MapAt (M : MK α β) (w : World) (b : Nat) (L : List (α × β)) : Prop := ∃ es clock, w.heap[b]? = some (.map es clock) ∧ MEnts M es clock L

variable {M : MK α β}
theorem MapAt.lt {w : World} {b : Nat} {L : List (α × β)} (h : MapAt M w b L) : b < w.heap.size := by
  obtain ⟨es, clock, hb, _⟩ := h; exact lt_of_heap hb
theorem MapAt.kept {f : Nat → Prop} {w w' : World} {b : Nat} {L : List (α × β)} (h : MapAt M w b L) (hk : Kept f w w') (hn : ¬ f b) : MapAt M w' b L := by
  obtain ⟨es, clock, hb, he⟩ := h; exact ⟨es, clock, hk.heap hb hn, he⟩
theorem MapAt.later {w w' : World} {b : Nat} {L : List (α × β)} (h : MapAt M w b L) (hb : Below w.heap.size w w') : MapAt M w' b L :=
  h.kept (f := fun _ => False) (Kept.of_below hb) (fun h => h)
theorem MapAt.wf {w : World} {b : Nat} {L : List (α × β)} (h : MapAt M w b L) : ∀ p ∈ L, M.wf p.1 := by obtain ⟨es, clock, hb, he⟩ := h; exact he.wf
theorem MapAt.nodup {w : World} {b : Nat} {L : List (α × β)} (h : MapAt M w b L) : (keysM L).Nodup := by obtain ⟨es, clock, hb, he⟩ := h; exact he.nodup
theorem MapAt.made (w : World) : MapAt M (w.alloc (.map #[] 0)) w.heap.size [] := ⟨#[], 0, World.alloc_heap_new w _, ⟨rfl, by simp, by simp, by simp, by simp [keysM], by simp⟩⟩
theorem MapAt.same {w w' : World} {b : Nat} {L : List (α × β)} (h : MapAt M w b L) (he : w'.heap[b]? = w.heap[b]?) : MapAt M w' b L := by
  obtain ⟨es, clock, hb, hh⟩ := h; exact ⟨es, clock, he.trans hb, hh⟩

theorem MEnts.keys (ok : M.Ok) {es : Array MapEntry} {clock : Nat} {L : List (α × β)} (h : MEnts M es clock L) : ∀ e ∈ es.toList, ∃ l, keyOf M.P M.K e.key = some l := fun e he => by
  have hm : (e.key, e.val) ∈ L.map (fun p => (M.ke p.1, M.ve p.2)) := h.kv ▸ List.mem_map.2 ⟨e, he, rfl⟩
  obtain ⟨p, hp, e1⟩ := List.mem_map.1 hm
  injection e1 with e1 e2
  rw [← e1]; exact ok.key _ (h.wf p hp)
theorem MEnts.at {es : Array MapEntry} {clock : Nat} {L : List (α × β)} (h : MEnts M es clock L) {j : Nat} {e : MapEntry} (hj : es.toList[j]? = some e) : ∃ p, L[j]? = some p ∧ e.key = M.ke p.1 ∧ e.val = M.ve p.2 := by
  have h1 : (es.toList.map (fun e => (e.key, e.val)))[j]? = some (e.key, e.val) := by simp [hj]
  rw [h.kv, List.getElem?_map] at h1
  cases hp : L[j]? with
  | none => simp [hp] at h1
  | some p =>
    rw [hp] at h1
    simp at h1
    exact ⟨p, rfl, h1.1.symm, h1.2.symm⟩
theorem MEnts.absent {es : Array MapEntry} {clock : Nat} {L : List (α × β)} (h : MEnts M es clock L) {s : α} (h2 : ∀ e ∈ es.toList, e.key ≠ M.ke s) : s ∉ keysM L := fun hm => by
  obtain ⟨p, hp, e⟩ := List.mem_map.1 (show s ∈ L.map (·.1) from hm)
  have hm2 : (M.ke p.1, M.ve p.2) ∈ es.toList.map (fun e => (e.key, e.val)) := h.kv ▸ List.mem_map.2 ⟨p, hp, rfl⟩
  obtain ⟨x, hx, ex⟩ := List.mem_map.1 hm2
  injection ex with e1 e2
  exact h2 x hx (by rw [e1, e])
theorem MEnts.count {es : Array MapEntry} {clock : Nat} {L : List (α × β)} (h : MEnts M es clock L) : es.size = L.length := by
  have := congrArg List.length h.kv; simpa using this

theorem run_lenM (ok : M.Ok) {w : World} {b : Nat} {L : List (α × β)} (h : MapAt M w b L) (ty : TypeId) : (Builtin.len_ #[M.T] ty #[.map (some b)]).run M.P w = .ok (.int .i64 L.length) w := by
  obtain ⟨es, clock, hb, he⟩ := h
  have := he.count
  simp [Builtin.len_, run_underlying ok.und, MapKept.run_getObj_map hb, goInt, Result.andThen, this]
end

section
variable {α β : Type} [DecidableEq α]
def getM (L : List (α × β)) (a : α) : Option β := (L.find? (fun p => decide (p.1 = a))).map (·.2)
def putM (L : List (α × β)) (a : α) (v : β) : List (α × β) := if a ∈ keysM L then L.map (fun p => if p.1 = a then (a, v) else p) else L ++ [(a, v)]
def delM (L : List (α × β)) (a : α) : List (α × β) := L.filter (fun p => decide (p.1 ≠ a))

theorem getM_none {L : List (α × β)} {a : α} : getM L a = none ↔ a ∉ keysM L := by
  unfold getM keysM
  rw [Option.map_eq_none_iff, List.find?_eq_none]
  constructor
  · intro h hm
    obtain ⟨p, hp, e⟩ := List.mem_map.1 hm
    exact h p hp (by simpa using e)
  · intro h p hp e
    exact h (List.mem_map.2 ⟨p, hp, by simpa using e⟩)
theorem getM_mem {L : List (α × β)} {a : α} {v : β} (h : getM L a = some v) : (a, v) ∈ L := by
  unfold getM at h
  obtain ⟨p, hp, e⟩ := Option.map_eq_some_iff.1 h
  have h1 := List.mem_of_find?_eq_some hp
  have h2 := List.find?_some hp
  have h3 : p.1 = a := by simpa using h2
  subst h3; subst e; exact h1
theorem getM_of {L : List (α × β)} (hn : (keysM L).Nodup) {a : α} {v : β} (h : (a, v) ∈ L) : getM L a = some v := by
  cases hg : getM L a with
  | none => exact absurd (List.mem_map.2 ⟨_, h, rfl⟩) (getM_none.1 hg)
  | some u =>
    have hm := getM_mem hg
    have hpw : L.Pairwise (fun a b => a.1 ≠ b.1) := List.pairwise_map.1 hn
    obtain ⟨i, hi, ei⟩ := List.getElem_of_mem hm
    obtain ⟨j, hj, ej⟩ := List.getElem_of_mem h
    rcases Nat.lt_trichotomy i j with h1 | h1 | h1
    · have := List.pairwise_iff_getElem.1 hpw i j hi hj h1; rw [ei, ej] at this; exact absurd rfl this
    · subst h1; rw [ei] at ej; cases ej; rfl
    · have := List.pairwise_iff_getElem.1 hpw j i hj hi h1; rw [ei, ej] at this; exact absurd rfl this
theorem keys_putM {L : List (α × β)} {a : α} {v : β} {k : α} : k ∈ keysM (putM L a v) ↔ k ∈ keysM L ∨ k = a := by
  unfold putM
  split
  next h =>
    have e : keysM (L.map (fun p => if p.1 = a then (a, v) else p)) = keysM L := by
      unfold keysM; rw [List.map_map]
      apply List.map_congr_left
      intro p _
      by_cases hp : p.1 = a <;> simp [hp]
    rw [e]
    exact ⟨.inl, fun h' => h'.elim id (fun e => e ▸ h)⟩
  next h => simp [keysM]
theorem keysM_put {L : List (α × β)} {a : α} {v : β} : keysM (putM L a v) = if a ∈ keysM L then keysM L else keysM L ++ [a] := by
  unfold putM
  split
  next h =>
    unfold keysM; rw [List.map_map]
    apply List.map_congr_left
    intro p _
    by_cases hp : p.1 = a <;> simp [hp]
  next h => simp [keysM]
theorem nodup_putM {L : List (α × β)} {a : α} {v : β} (h : (keysM L).Nodup) : (keysM (putM L a v)).Nodup := by
  rw [keysM_put]
  split
  next => exact h
  next hn =>
    rw [List.nodup_append]
    refine ⟨h, by simp, fun x hx y hy e => ?_⟩
    simp at hy
    rw [hy] at e; rw [e] at hx; exact hn hx
theorem mem_putM {L : List (α × β)} {a : α} {v : β} {p : α × β} (h : p ∈ putM L a v) : p = (a, v) ∨ (p ∈ L ∧ p.1 ≠ a) := by
  unfold putM at h
  split at h
  next hin =>
    obtain ⟨q, hq, e⟩ := List.mem_map.1 h
    by_cases hqa : q.1 = a
    · rw [if_pos hqa] at e; exact .inl e.symm
    · rw [if_neg hqa] at e; subst e; exact .inr ⟨hq, hqa⟩
  next hn =>
    rcases List.mem_append.1 h with h | h
    · exact .inr ⟨h, fun e => hn (List.mem_map.2 ⟨p, h, e⟩)⟩
    · simp at h; exact .inl h
theorem getM_put {L : List (α × β)} (hn : (keysM L).Nodup) (a : α) (v : β) (k : α) : getM (putM L a v) k = if k = a then some v else getM L k := by
  have hn2 := nodup_putM (a := a) (v := v) hn
  split
  next h =>
    subst h
    refine getM_of hn2 ?_
    unfold putM
    split
    next hin =>
      obtain ⟨q, hq, e⟩ := List.mem_map.1 hin
      exact List.mem_map.2 ⟨q, hq, by rw [if_pos e]⟩
    next => simp
  next h =>
    cases hg : getM L k with
    | none => exact getM_none.2 (fun hm => by
        rcases keys_putM.1 hm with hm | hm
        · exact getM_none.1 hg hm
        · exact h hm)
    | some u =>
      refine getM_of hn2 ?_
      have hm := getM_mem hg
      unfold putM
      split
      next => exact List.mem_map.2 ⟨_, hm, by rw [if_neg h]⟩
      next => exact List.mem_append_left _ hm
theorem mem_delM {L : List (α × β)} {a : α} {p : α × β} : p ∈ delM L a ↔ p ∈ L ∧ p.1 ≠ a := by unfold delM; simp
theorem keysM_del {L : List (α × β)} {a : α} : keysM (delM L a) = (keysM L).filter (fun k => decide (k ≠ a)) := by
  unfold keysM delM; rw [List.filter_map]; rfl
theorem nodup_delM {L : List (α × β)} {a : α} (h : (keysM L).Nodup) : (keysM (delM L a)).Nodup := by rw [keysM_del]; exact h.filter _
theorem getM_del {L : List (α × β)} (hn : (keysM L).Nodup) (a k : α) : getM (delM L a) k = if k = a then none else getM L k := by
  split
  next h =>
    subst h
    exact getM_none.2 (by rw [keysM_del]; simp)
  next h =>
    cases hg : getM L k with
    | none => exact getM_none.2 (by rw [keysM_del]; simp; intro hm; exact absurd hm (getM_none.1 hg))
    | some u => exact getM_of (nodup_delM hn) (mem_delM.2 ⟨getM_mem hg, h⟩)
theorem length_putM {L : List (α × β)} {a : α} {v : β} : (putM L a v).length = if a ∈ keysM L then L.length else L.length + 1 := by
  unfold putM; split <;> simp
theorem length_delM_le {L : List (α × β)} {a : α} : (delM L a).length ≤ L.length := List.length_filter_le _ _

variable {M : MK α β}
/-- 'm[k]' and 'v, ok := m[k]'. -/
def lookM (M : MK α β) (c : Bool) (o : Option β) : Value := match o with
  | none => if c then .tuple #[M.z, .bool false] else M.z
  | some v => if c then .tuple #[M.ve v, .bool true] else M.ve v
theorem run_lookM (ok : M.Ok) (c : Bool) {w : World} {b : Nat} {L : List (α × β)} (h : MapAt M w b L) {s : α} (hs : M.wf s) :
    (Instr.lookup M.T (.map (some b)) (M.ke s) c).run M.P w = .ok (lookM M c (getM L s)) w := by
  obtain ⟨es, clock, hb, he⟩ := h
  obtain ⟨kl, hkl⟩ := ok.key s hs
  rcases ok.law.find w hkl es.toList (he.keys ok) with ⟨h1, h2⟩ | ⟨j, e0, h1, h2, h3⟩
  · have hg : getM L s = none := getM_none.2 (he.absent h2)
    simp [Instr.lookup, run_underlying ok.und, MapKept.run_getObj_map hb, ok.law.check w _ hkl, h1, ok.zero w, Result.andThen, lookM, hg]
  · obtain ⟨p, hp, hk, hv⟩ := he.at h2
    have hps : p.1 = s := ok.inj _ _ (hk.symm.trans h3)
    have hg : getM L s = some p.2 := by rw [← hps]; exact getM_of he.nodup (List.mem_of_getElem? hp)
    simp [Instr.lookup, run_underlying ok.und, MapKept.run_getObj_map hb, ok.law.check w _ hkl, h1, Result.andThen, lookM, hg, hv]

theorem kept_block {w : World} {b : Nat} (o : Obj) : Kept (fun k => k = b) w (setBlock w b o) := ⟨rfl, rfl, rfl, by simp [setBlock], fun k hk hne => by
    simp only [setBlock]; rw [Array.getElem?_setIfInBounds_ne (fun e => hne e.symm)]⟩

/-- 'm[k] = v'. -/
theorem run_storeM (ok : M.Ok) {w : World} {b : Nat} {L : List (α × β)} (h : MapAt M w b L) (hroom : L.length < maxLen) {s : α} (hs : M.wf s) (v : β) :
    ∃ o, (Instr.mapUpdate M.T (.map (some b)) (M.ke s) (M.ve v)).run M.P w = .ok () (setBlock w b o) ∧ MapAt M (setBlock w b o) b (putM L s v) ∧ Kept (fun k => k = b) w (setBlock w b o) ∧ o.isCells = false := by
  have hbl := h.lt
  have hat : ∀ o, (setBlock w b o).heap[b]? = some o := fun o => by simp [setBlock, hbl]
  obtain ⟨es, clock, hb, he⟩ := h
  obtain ⟨kl, hkl⟩ := ok.key s hs
  rcases ok.law.find w hkl es.toList (he.keys ok) with ⟨h1, h2⟩ | ⟨j, e0, h1, h2, h3⟩
  · have hg : s ∉ keysM L := he.absent h2
    refine ⟨.map (es.push ⟨M.ke s, M.ve v, clock⟩) (clock + 1), ?_, ⟨_, _, hat _, ?_⟩, kept_block _, rfl⟩
    · simp [Instr.mapUpdate, run_underlying ok.und, MapKept.run_getObj_map hb, ok.law.check w false hkl, h1, MapKept.run_setObj_map _ hb, Result.andThen, setBlock]
    · have hp : putM L s v = L ++ [(s, v)] := by unfold putM; rw [if_neg hg]
      refine ⟨by rw [hp]; simp [he.kv], ?_, ?_, ?_, nodup_putM he.nodup, by have := he.count; simp; omega⟩
      · intro x hx
        simp at hx
        rcases hx with hx | rfl
        · have := he.born x (by simpa using hx); omega
        · simp
      · rw [Array.toList_push, List.map_append, List.nodup_append]
        refine ⟨he.once, by simp, fun a ha c hc => ?_⟩
        simp at hc; subst hc
        obtain ⟨x, hx, rfl⟩ := List.mem_map.1 ha
        have := he.born x hx; omega
      · rw [hp]; intro p hp
        rcases List.mem_append.1 hp with hp | hp
        · exact he.wf p hp
        · simp at hp; subst hp; exact hs
  · obtain ⟨p, hp, hk, hv⟩ := he.at h2
    have hps : p.1 = s := ok.inj _ _ (hk.symm.trans h3)
    have hj : es[j]? = some e0 := by simpa using h2
    have hin : s ∈ keysM L := by unfold keysM; exact List.mem_map.2 ⟨p, List.mem_of_getElem? hp, hps⟩
    have hlist : (es.modify j (fun e' => { e' with key := M.ke s, val := M.ve v })).toList = es.toList.set j { e0 with key := M.ke s, val := M.ve v } := by rw [Array.toList_modify, modify_eq_set _ _ _ _ h2]
    refine ⟨.map (es.modify j (fun e' => { e' with key := M.ke s, val := M.ve v })) clock, ?_, ⟨_, _, hat _, ?_⟩, kept_block _, rfl⟩
    · simp [Instr.mapUpdate, run_underlying ok.und, MapKept.run_getObj_map hb, ok.law.check w false hkl, h1, hj, h3, ok.law.stays w hkl, MapKept.run_setObj_map _ hb, Result.andThen, setBlock]
    · have hput : putM L s v = L.set j (s, v) := by
        unfold putM; rw [if_pos hin]
        apply List.ext_getElem?
        intro i
        rw [List.getElem?_map, List.getElem?_set]
        by_cases e : j = i
        · subst e
          have hjl : j < L.length := (List.getElem?_eq_some_iff.1 hp).1
          rw [hp]; simp only [Option.map_some, hps, if_true, hjl]
        · rw [if_neg e]
          cases hi : L[i]? with
          | none => simp
          | some q =>
            have hne : q.1 ≠ s := fun eq => by
              have hpw : L.Pairwise (fun a b => a.1 ≠ b.1) := List.pairwise_map.1 he.nodup
              obtain ⟨hil, ei⟩ := List.getElem?_eq_some_iff.1 hi
              obtain ⟨hjl, ej⟩ := List.getElem?_eq_some_iff.1 hp
              rcases Nat.lt_or_gt_of_ne e with h | h
              · have := List.pairwise_iff_getElem.1 hpw j i hjl hil h; rw [ei, ej] at this; exact this (hps.trans eq.symm)
              · have := List.pairwise_iff_getElem.1 hpw i j hil hjl h; rw [ei, ej] at this; exact this (eq.trans hps.symm)
            simp [hne]
      refine ⟨?_, ?_, ?_, ?_, nodup_putM he.nodup, by simpa using he.size⟩
      · rw [hlist, hput, List.map_set, List.map_set, he.kv]
      · intro x hx
        rw [hlist] at hx
        rcases List.mem_or_eq_of_mem_set hx with hx | rfl
        · exact he.born x hx
        · exact he.born e0 (List.mem_of_getElem? h2)
      · rw [hlist, List.map_set]
        have : (es.toList.map (·.born)).set j e0.born = es.toList.map (·.born) := by
          apply List.ext_getElem?
          intro i
          rw [List.getElem?_set]
          by_cases e : j = i
          · subst e
            have hjl : j < es.toList.length := (List.getElem?_eq_some_iff.1 h2).1
            simp only [List.length_map, hjl, if_true, List.getElem?_map, h2, Option.map_some]
          · rw [if_neg e]
        show ((es.toList.map (·.born)).set j e0.born).Nodup
        rw [this]; exact he.once
      · intro q hq
        rcases mem_putM hq with rfl | ⟨hq, _⟩
        · exact hs
        · exact he.wf q hq

/-- 'delete(m, k)'; what is left of the entries is told, for a range under way. -/
theorem run_delM (ok : M.Ok) {w : World} {b : Nat} {L : List (α × β)} {es : Array MapEntry} {clock : Nat} (hb : w.heap[b]? = some (.map es clock)) (he : MEnts M es clock L) {s : α} (hs : M.wf s) (ty : TypeId) :
    ∃ es', (Builtin.delete_ #[M.T, M.K] ty #[.map (some b), M.ke s]).run M.P w = .ok (.tuple #[]) (setBlock w b (.map es' clock)) ∧ MEnts M es' clock (delM L s) ∧ (∀ e, e ∈ es'.toList ↔ e ∈ es.toList ∧ e.key ≠ M.ke s) := by
  obtain ⟨kl, hkl⟩ := ok.key s hs
  rcases ok.law.find w hkl es.toList (he.keys ok) with ⟨h1, h2⟩ | ⟨j, e0, h1, h2, h3⟩
  · have hg : s ∉ keysM L := he.absent h2
    have hd : delM L s = L := by
      unfold delM; rw [List.filter_eq_self]
      intro p hp; simp; intro e; exact hg (List.mem_map.2 ⟨p, hp, e⟩)
    refine ⟨es, ?_, by rw [hd]; exact he, fun e => ⟨fun h => ⟨h, h2 e h⟩, fun h => h.1⟩⟩
    simp [Builtin.delete_, run_underlying ok.und, MapKept.run_getObj_map hb, ok.law.check w _ hkl, h1, MapKept.run_setObj_map _ hb, Result.andThen, setBlock]
  · obtain ⟨p, hp, hk, hv⟩ := he.at h2
    have hps : p.1 = s := ok.inj _ _ (hk.symm.trans h3)
    have hjl : j < es.toList.length := (List.getElem?_eq_some_iff.1 h2).1
    have hjs : j < es.size := by simpa using hjl
    have hsub : (es.eraseIdxIfInBounds j).toList = es.toList.eraseIdx j := by
      unfold Array.eraseIdxIfInBounds
      rw [dif_pos hjs]
      simp
    have hpw : L.Pairwise (fun a b => a.1 ≠ b.1) := List.pairwise_map.1 he.nodup
    have hjL : j < L.length := (List.getElem?_eq_some_iff.1 hp).1
    have hkeyj : ∀ i q, L[i]? = some q → i ≠ j → q.1 ≠ s := fun i q hi hne eq => by
      obtain ⟨hil, ei⟩ := List.getElem?_eq_some_iff.1 hi
      obtain ⟨_, ej⟩ := List.getElem?_eq_some_iff.1 hp
      rcases Nat.lt_or_gt_of_ne hne with h | h
      · have := List.pairwise_iff_getElem.1 hpw i j hil hjL h; rw [ei, ej] at this; exact this (eq.trans hps.symm)
      · have := List.pairwise_iff_getElem.1 hpw j i hjL hil h; rw [ei, ej] at this; exact this (hps.trans eq.symm)
    have hd : delM L s = L.eraseIdx j := by
      have e1 : L = L.take j ++ p :: L.drop (j + 1) := by
        obtain ⟨hjl', ej⟩ := List.getElem?_eq_some_iff.1 hp
        rw [← ej, ← List.drop_eq_getElem_cons hjl']; exact (List.take_append_drop j L).symm
      have t1 : ∀ q ∈ L.take j, q.1 ≠ s := fun q hq => by
        obtain ⟨i, hi, ei⟩ := List.getElem_of_mem hq
        have hi' : i < j := by simp at hi; omega
        exact hkeyj i q (by rw [← ei]; simp [List.getElem_take]) (by omega)
      have t2 : ∀ q ∈ L.drop (j + 1), q.1 ≠ s := fun q hq => by
        obtain ⟨i, hi, ei⟩ := List.getElem_of_mem hq
        exact hkeyj (j + 1 + i) q (by rw [← ei]; simp at hi ⊢) (by omega)
      rw [List.eraseIdx_eq_take_drop_succ]
      unfold delM
      conv => lhs; rw [e1]
      rw [List.filter_append, List.filter_cons_of_neg (by simp [hps]), List.filter_eq_self.2 (fun q hq => by simpa using t1 q hq), List.filter_eq_self.2 (fun q hq => by simpa using t2 q hq)]
    refine ⟨es.eraseIdxIfInBounds j, ?_, ⟨?_, ?_, ?_, ?_, nodup_delM he.nodup, ?_⟩, ?_⟩
    · simp [Builtin.delete_, run_underlying ok.und, MapKept.run_getObj_map hb, ok.law.check w _ hkl, h1, MapKept.run_setObj_map _ hb, Result.andThen, setBlock]
    · rw [hsub, hd, Go.ChangeMaps.map_eraseIdx, Go.ChangeMaps.map_eraseIdx, he.kv]
    · intro x hx; rw [hsub] at hx; exact he.born x ((List.eraseIdx_sublist _ _).subset hx)
    · rw [hsub]; exact he.once.sublist ((List.eraseIdx_sublist _ _).map _)
    · intro q hq; exact he.wf q (mem_delM.1 hq).1
    · have := MapFrom.size_erase es j; have := he.size; omega
    · intro e
      rw [hsub]
      constructor
      · intro h
        refine ⟨(List.eraseIdx_sublist _ _).subset h, fun ek => ?_⟩
        obtain ⟨i, hne, hi⟩ := List.mem_eraseIdx_iff_getElem?.1 h
        obtain ⟨q, hq, hqk, _⟩ := he.at hi
        exact hkeyj i q hq hne (ok.inj _ _ (hqk.symm.trans ek))
      · rintro ⟨h, ek⟩
        obtain ⟨i, hi⟩ := List.mem_iff_getElem?.1 h
        refine List.mem_eraseIdx_iff_getElem?.2 ⟨i, fun e2 => ?_, hi⟩
        subst e2
        rw [h2] at hi
        cases hi
        exact ek h3

end
end Go.Proofs.YtpbimdkclnekeaaGreat

namespace Go.Proofs.YtpbimdkclnekeaaGreat

/-- A configuration. -/
structure Cf where
  s : Int
  le : Int
  la : Int
  wi : Int
  ke : Int
  qu : Int
  n : Nat
  F : Nat → Int
  W : Nat → Int
  K : Nat → Int

/-- A number that was accepted. -/
structure Nm where
  ser : Int
  tm : Int
  val : Int

/-- A segment. -/
structure Sg where
  t : Int
  ser : Int
  win : Int
deriving DecidableEq

/-- A cell. -/
structure Cl where
  cnt : Int
  sum : Int
  mn : Int
  mx : Int

/-- A job that is ready. -/
structure Tk where
  kind : Int
  s : Sg
  since : Int
  tries : Int
  rest : Int
  ep : Int
  num : Int
  slot : Int
  till : Int

/-- The document's mill. -/
structure RM where
  c : Cf
  now : Int
  nums : List Nm
  pub : List Sg
  gone : List Sg
  tasks : List Tk
  epoch : Int
  picks : Int

def nmV (x : Nm) : List Value := [.int .i64 x.ser, .int .i64 x.tm, .int .i32 x.val]
def sgV (x : Sg) : List Value := [.int .i64 x.t, .int .i64 x.ser, .int .i64 x.win]
def tkV (x : Tk) : List Value := [.int .i64 x.kind, .int .i64 x.s.t, .int .i64 x.s.ser, .int .i64 x.s.win, .int .i64 x.since, .int .i64 x.tries, .int .i64 x.rest, .int .i64 x.ep, .int .i64 x.num, .int .i64 x.slot, .int .i64 x.till]

section
variable {α : Type}
theorem flat_get {f : α → List Value} {k : Nat} (hf : ∀ a, (f a).length = k) : ∀ (l : List α) (i : Nat) (a : α) (j : Nat), l[i]? = some a → j < k → (l.flatMap f)[i * k + j]? = (f a)[j]?
  | [], i, a, j, h, _ => by simp at h
  | b :: l, 0, a, j, h, hj => by
    simp at h; subst h
    rw [List.flatMap_cons, List.getElem?_append_left (by rw [hf]; omega)]; simp
  | b :: l, i + 1, a, j, h, hj => by
    have := flat_get hf l i a j (by simpa using h) hj
    rw [List.flatMap_cons, List.getElem?_append_right (by rw [hf, Nat.add_mul]; omega), hf, ← this]
    congr 1; rw [Nat.add_mul]; omega
theorem flat_snoc (f : α → List Value) (l : List α) (a : α) : (l ++ [a]).flatMap f = l.flatMap f ++ f a := by simp
end

/-- A configuration that is right, as far as walks ask. -/
structure Cf.ok (c : Cf) : Prop where
  n1 : 1 ≤ c.n
  n4 : c.n ≤ 4
  wi1 : 1 ≤ c.wi
  wi2 : c.wi ≤ 1000
  W : ∀ i, i < c.n → 1 ≤ c.W i ∧ c.W i ≤ 1000
  F : ∀ i, i < c.n → -1 ≤ c.F i ∧ c.F i < c.n
  K : ∀ i, i < c.n → 0 ≤ c.K i ∧ c.K i ≤ 1000
  ke : 0 ≤ c.ke ∧ c.ke ≤ 1000
  la : 0 ≤ c.la ∧ c.la ≤ 100
  qu : 1 ≤ c.qu ∧ c.qu ≤ 400
  sl : 1 ≤ c.s ∧ c.s ≤ 4
  le : 1 ≤ c.le ∧ c.le ≤ 100

/-- the width of a tier. -/
def Cf.width (c : Cf) (t : Int) : Int := widthOf c.wi c.W t

theorem Cf.ok.width {c : Cf} (h : c.ok) {t : Int} (h1 : -1 ≤ t) (h2 : t < c.n) : 1 ≤ c.width t ∧ c.width t ≤ 1000 := by
  unfold Cf.width widthOf
  split
  · exact ⟨h.wi1, h.wi2⟩
  · exact h.W _ (by omega)

/-- the segment of a number in a tier. -/
def segOf (c : Cf) (t : Int) (x : Nm) : Sg := ⟨t, x.ser, x.tm / c.width t⟩

def addSg (l : List Sg) (s : Sg) : List Sg := if s ∈ l then l else l ++ [s]
def segsTier (c : Cf) (t : Int) (nums : List Nm) (l : List Sg) : List Sg := nums.foldl (fun l x => addSg l (segOf c t x)) l
/-- the segments of the first k tiers (the raw numbers are the first). -/
def segsTo (c : Cf) (nums : List Nm) (k : Nat) : List Sg := (List.range k).foldl (fun l (j : Nat) => segsTier c ((j : Int) - 1) nums l) []
def segsOf (c : Cf) (nums : List Nm) : List Sg := segsTo c nums (c.n + 1)

theorem segsTo_succ (c : Cf) (nums : List Nm) (k : Nat) : segsTo c nums (k + 1) = segsTier c ((k : Int) - 1) nums (segsTo c nums k) := by
  simp [segsTo, List.range_succ]
theorem mem_addSg {l : List Sg} {s x : Sg} : x ∈ addSg l s ↔ x ∈ l ∨ x = s := by
  unfold addSg; split
  · rename_i h; constructor
    · exact .inl
    · rintro (h1 | rfl) <;> assumption
  · simp
theorem mem_segsTier (c : Cf) (t : Int) (s : Sg) : ∀ (nums : List Nm) (l : List Sg), s ∈ segsTier c t nums l ↔ s ∈ l ∨ ∃ x ∈ nums, s = segOf c t x
  | [], l => by simp [segsTier]
  | x :: r, l => by
    have := mem_segsTier c t s r (addSg l (segOf c t x))
    simp only [segsTier, List.foldl_cons] at this ⊢
    rw [this, mem_addSg]; simp only [List.mem_cons, exists_eq_or_imp]
    constructor
    · rintro ((h | h) | h)
      · exact .inl h
      · exact .inr (.inl h)
      · exact .inr (.inr h)
    · rintro (h | h | h)
      · exact .inl (.inl h)
      · exact .inl (.inr h)
      · exact .inr h
theorem mem_segsTo (c : Cf) (nums : List Nm) (s : Sg) : ∀ k, s ∈ segsTo c nums k ↔ ∃ j, j < k ∧ ∃ x ∈ nums, s = segOf c ((j : Int) - 1) x
  | 0 => by simp [segsTo]
  | k + 1 => by
    rw [segsTo_succ, mem_segsTier, mem_segsTo c nums s k]
    constructor
    · rintro (⟨j, hj, h⟩ | h)
      · exact ⟨j, by omega, h⟩
      · exact ⟨k, by omega, h⟩
    · rintro ⟨j, hj, h⟩
      by_cases e : j = k
      · subst e; exact .inr h
      · exact .inl ⟨j, by omega, h⟩
/-- a segment is there if a number was accepted for it. -/
theorem mem_segsOf {c : Cf} {nums : List Nm} {s : Sg} : s ∈ segsOf c nums ↔ -1 ≤ s.t ∧ s.t < c.n ∧ ∃ x ∈ nums, s = segOf c s.t x := by
  unfold segsOf; rw [mem_segsTo]
  constructor
  · rintro ⟨j, hj, x, hx, rfl⟩
    refine ⟨?_, ?_, x, hx, rfl⟩ <;> simp only [segOf] <;> omega
  · rintro ⟨h1, h2, x, hx, h⟩
    refine ⟨(s.t + 1).toNat, by omega, x, hx, ?_⟩
    have : (((s.t + 1).toNat : Nat) : Int) - 1 = s.t := by omega
    rw [this]; exact h
theorem addSg_nodup {l : List Sg} {s : Sg} (h : l.Nodup) : (addSg l s).Nodup := by
  unfold addSg; split
  · exact h
  · rename_i hn; rw [List.nodup_append]
    exact ⟨h, by simp, fun a ha b hb => by simp at hb; subst hb; intro e; subst e; exact hn ha⟩
theorem segsTier_nodup (c : Cf) (t : Int) : ∀ (nums : List Nm) (l : List Sg), l.Nodup → (segsTier c t nums l).Nodup
  | [], l, h => by simpa [segsTier] using h
  | x :: r, l, h => by
    have := segsTier_nodup c t r (addSg l (segOf c t x)) (addSg_nodup h)
    simpa only [segsTier, List.foldl_cons] using this
theorem segsTo_nodup (c : Cf) (nums : List Nm) : ∀ k, (segsTo c nums k).Nodup
  | 0 => by simp [segsTo]
  | k + 1 => by rw [segsTo_succ]; exact segsTier_nodup c _ nums _ (segsTo_nodup c nums k)
theorem segsOf_nodup (c : Cf) (nums : List Nm) : (segsOf c nums).Nodup := segsTo_nodup c nums _

/-- one number more in a cell. -/
def addCl (a : Cl) (v : Int) : Cl := ⟨a.cnt + 1, a.sum + v, if a.cnt = 0 ∨ v < a.mn then v else a.mn, if a.cnt = 0 ∨ a.mx < v then v else a.mx⟩
def stepCl (c : Cf) (s : Sg) (a : Cl) (x : Nm) : Cl := if segOf c s.t x = s then addCl a x.val else a
def cellOf (c : Cf) (s : Sg) (nums : List Nm) : Cl := nums.foldl (stepCl c s) ⟨0, 0, 0, 0⟩
theorem cellOf_snoc (c : Cf) (s : Sg) (nums : List Nm) (x : Nm) : cellOf c s (nums ++ [x]) = stepCl c s (cellOf c s nums) x := by simp [cellOf]

/-- what a segment uses. -/
def useOf (c : Cf) (nums : List Nm) (rc : List Sg) (s : Sg) : Int := if s ∈ rc then 0 else if s.t = -1 then (cellOf c s nums).cnt else 2
def usedOf (c : Cf) (nums : List Nm) (rc l : List Sg) : Int := l.foldl (fun n s => n + useOf c nums rc s) 0
def RM.used (m : RM) : Int := usedOf m.c m.nums m.gone (segsOf m.c m.nums)
/-- the bounds of a cell of at most so many 32-bit numbers. -/
def Nm.ok (x : Nm) : Prop := -2147483648 ≤ x.val ∧ x.val ≤ 2147483647 ∧ 0 ≤ x.tm ∧ x.tm ≤ 100000 ∧ 0 ≤ x.ser ∧ x.ser < 4
end Go.Proofs.YtpbimdkclnekeaaGreat
