import Derived.Test.YtgadceofpbfleaaGreatQLive0
import Derived.Maps.Keyed
import Derived.Maps.RangeRun
import Derived.DeepKeys4
import Derived.RangeFuncOwn

/- The program's map of segments: its entries, in the order in which they came, are a list by keys; look-up and store. -/
namespace Go.Proofs.YtgadceofpbfleaaGreat
open Go.RowKit Go.Maps
open Go.ChangeMaps (setBlock modify_eq_set)
set_option linter.unusedVariables false

def svVal (v : SV) : Value := .agg #[.int .i64 v.st, .int .i64 v.cl.cnt, .int .i64 v.cl.sum, .int .i32 v.cl.mn, .int .i32 v.cl.mx]
def i64B (n : Int) : Prop := -9223372036854775808 ≤ n ∧ n ≤ 9223372036854775807
def Sg.wf (s : Sg) : Prop := i64B s.t ∧ i64B s.ser ∧ i64B s.win

theorem Tryz.laidOut : laidOutB Tryz.prog = true := by kernel_rfl
theorem keyRow : (125 : TypeId) < Tryz.prog.types.size := of_decide_eq_true (by kernel_rfl)
theorem keyLaw : Keyed Tryz.prog 125 := Keyed.of_law (deep_law_laid Tryz.laidOut (m := 2) (Nat.le_of_ble_eq_true rfl) keyRow (by kernel_rfl) (by kernel_rfl))

theorem key_size : ∃ m, Tryz.prog.types.size = m + 1 := by
  have h : 0 < Tryz.prog.types.size := of_decide_eq_true (by kernel_rfl)
  exact ⟨Tryz.prog.types.size - 1, by omega⟩
theorem key_cells : Tryz.prog.cellsOf 125 = 3 := by kernel_rfl
theorem int_cells : Tryz.prog.cellsOf 3 = 1 := by kernel_rfl
theorem key_type : Tryz.prog.keyType 125 = true := by kernel_rfl
theorem sg_inj {s k : Sg} (h : sgVal s = sgVal k) : s = k := by
  unfold sgVal at h
  injection h with h
  injection h with h
  injection h with h1 h
  injection h with h2 h
  injection h with h3 h
  injection h1 with _ h1
  injection h2 with _ h2
  injection h3 with _ h3
  cases s; cases k; simp at *; exact ⟨h1, h2, h3⟩
theorem wf64 {n : Int} (h : i64B n) : (Lit.int .i64 n).wf = true := WalkArith.wf_i64 (by unfold i64B at h; omega)
theorem sg_key {s : Sg} (h : s.wf) : ∃ kl, keyOf Tryz.prog 125 (sgVal s) = some kl := by
  obtain ⟨m, hm⟩ := key_size
  obtain ⟨h1, h2, h3⟩ := h
  have hf : (sgVal s).formed Tryz.prog 125 = true := by
    simp [Value.formed, sgVal, Tryz.underlying125, key_cells]
  unfold keyOf
  simp only [Tryz.underlying125, key_type, hf, Bool.and_self, if_true]
  have : ∃ ls, Tryz.prog.keyLits (Tryz.prog.types.size + 1) 125 (sgVal s).cells.toList = some ls := by
    rw [hm]
    simp [Program.keyLits, Tryz.underlying125, Tryz.underlying3, sgVal, Value.cells, key_cells, int_cells, wf64 h1, wf64 h2, wf64 h3]
  obtain ⟨ls, hls⟩ := this
  exact ⟨_, by rw [hls]; rfl⟩

/-- a map's entries are this list. -/
structure Ents (es : Array MapEntry) (clock : Nat) (L : LV) : Prop where
  kv : es.toList.map (fun e => (e.key, e.val)) = L.map (fun p => (sgVal p.1, svVal p.2))
  born : ∀ e ∈ es.toList, e.born < clock
  once : (es.toList.map (·.born)).Nodup
  wf : ∀ p ∈ L, p.1.wf
  nodup : (keysL L).Nodup
  size : es.size ≤ maxLen
def LiveAt (w : World) (b : Nat) (L : LV) : Prop := ∃ es clock, w.heap[b]? = some (.map es clock) ∧ Ents es clock L

theorem LiveAt.lt {w : World} {b : Nat} {L : LV} (h : LiveAt w b L) : b < w.heap.size := by
  obtain ⟨es, clock, hb, _⟩ := h; exact lt_of_heap hb
theorem LiveAt.kept {f : Nat → Prop} {w w' : World} {b : Nat} {L : LV} (h : LiveAt w b L) (hk : Kept f w w') (hn : ¬ f b) : LiveAt w' b L := by
  obtain ⟨es, clock, hb, he⟩ := h; exact ⟨es, clock, hk.heap hb hn, he⟩
theorem LiveAt.later {w w' : World} {b : Nat} {L : LV} (h : LiveAt w b L) (hb : Below w.heap.size w w') : LiveAt w' b L :=
  h.kept (f := fun _ => False) (Kept.of_below hb) (fun h => h)
theorem LiveAt.wf {w : World} {b : Nat} {L : LV} (h : LiveAt w b L) : ∀ p ∈ L, p.1.wf := by obtain ⟨es, clock, hb, he⟩ := h; exact he.wf
theorem LiveAt.made (w : World) : LiveAt (w.alloc (.map #[] 0)) w.heap.size [] := ⟨#[], 0, rlast _ _, ⟨rfl, by simp, by simp, by simp, by simp [keysL], by simp⟩⟩

theorem Ents.keys {es : Array MapEntry} {clock : Nat} {L : LV} (h : Ents es clock L) : ∀ e ∈ es.toList, ∃ l, keyOf Tryz.prog 125 e.key = some l := fun e he => by
  have hm : (e.key, e.val) ∈ L.map (fun p => (sgVal p.1, svVal p.2)) := h.kv ▸ List.mem_map.2 ⟨e, he, rfl⟩
  obtain ⟨p, hp, e1⟩ := List.mem_map.1 hm
  injection e1 with e1 e2
  rw [← e1]; exact sg_key (h.wf p hp)
theorem Ents.at {es : Array MapEntry} {clock : Nat} {L : LV} (h : Ents es clock L) {j : Nat} {e : MapEntry} (hj : es.toList[j]? = some e) : ∃ p, L[j]? = some p ∧ e.key = sgVal p.1 ∧ e.val = svVal p.2 := by
  have h1 : (es.toList.map (fun e => (e.key, e.val)))[j]? = some (e.key, e.val) := by simp [hj]
  rw [h.kv, List.getElem?_map] at h1
  cases hp : L[j]? with
  | none => simp [hp] at h1
  | some p =>
    rw [hp] at h1
    simp at h1
    exact ⟨p, rfl, h1.1.symm, h1.2.symm⟩
theorem key_mem {L : LV} {s : Sg} {j : Nat} {p : Sg × SV} (hp : L[j]? = some p) (e : p.1 = s) : s ∈ keysL L := by
  unfold keysL; exact List.mem_map.2 ⟨p, List.mem_of_getElem? hp, e⟩
theorem getL_at {L : LV} (hn : (keysL L).Nodup) {j : Nat} {p : Sg × SV} (hp : L[j]? = some p) : getL L p.1 = some p.2 := by
  obtain ⟨v, hv, hm⟩ := getL_of (key_mem hp rfl)
  rw [hv]
  have hpm := List.mem_of_getElem? hp
  have : (p.1, v) = p := by
    have hpw : L.Pairwise (fun a b => a.1 ≠ b.1) := by unfold keysL at hn; exact List.pairwise_map.1 hn
    by_cases e : (p.1, v) = p
    · exact e
    · obtain ⟨i, hi, ei⟩ := List.getElem_of_mem hm
      obtain ⟨i2, hi2, ei2⟩ := List.getElem_of_mem hpm
      rcases Nat.lt_trichotomy i i2 with h | h | h
      · have := List.pairwise_iff_getElem.1 hpw i i2 hi hi2 h; rw [ei, ei2] at this; exact absurd rfl this
      · subst h; rw [ei] at ei2; exact ei2
      · have := List.pairwise_iff_getElem.1 hpw i2 i hi2 hi h; rw [ei, ei2] at this; exact absurd rfl this
  rw [← this]

/-- 'm[k]' and 'v, ok := m[k]'. -/
def lookV (c : Bool) (z : Value) (L : LV) (s : Sg) : Value := match getL L s with
  | none => if c then .tuple #[z, .bool false] else z
  | some v => if c then .tuple #[svVal v, .bool true] else svVal v
theorem run_look (c : Bool) {w : World} {b : Nat} {L : LV} (h : LiveAt w b L) {s : Sg} (hs : s.wf) :
    (Instr.lookup 139 (.map (some b)) (sgVal s) c).run Tryz.prog w = .ok (lookV c (svVal ⟨0, noCl⟩) L s) w := by
  obtain ⟨es, clock, hb, he⟩ := h
  obtain ⟨kl, hkl⟩ := sg_key hs
  have hz : (zeroValue 145).run Tryz.prog w = .ok (svVal ⟨0, noCl⟩) w := by kernel_rfl
  rcases keyLaw.find w hkl es.toList he.keys with ⟨h1, h2⟩ | ⟨j, e0, h1, h2, h3⟩
  · have hg : getL L s = none := getL_none.2 (fun hm => by
      obtain ⟨p, hp, e⟩ := List.mem_map.1 (show s ∈ L.map (·.1) from hm)
      have hm2 : (sgVal p.1, svVal p.2) ∈ es.toList.map (fun e => (e.key, e.val)) := he.kv ▸ List.mem_map.2 ⟨p, hp, rfl⟩
      obtain ⟨x, hx, ex⟩ := List.mem_map.1 hm2
      injection ex with e1 e2
      exact h2 x hx (by rw [e1, e]))
    simp [Instr.lookup, run_underlying Tryz.underlying139, MapKept.run_getObj_map hb, keyLaw.check w _ hkl, h1, hz, Result.andThen, lookV, hg]
  · obtain ⟨p, hp, hk, hv⟩ := he.at h2
    have hps : p.1 = s := sg_inj (hk.symm.trans h3)
    have hg : getL L s = some p.2 := by rw [← hps]; exact getL_at he.nodup hp
    simp [Instr.lookup, run_underlying Tryz.underlying139, MapKept.run_getObj_map hb, keyLaw.check w _ hkl, h1, Result.andThen, lookV, hg, hv]

theorem size_LV {es : Array MapEntry} {clock : Nat} {L : LV} (h : Ents es clock L) : es.size = L.length := by
  have := congrArg List.length h.kv; simpa using this

/-- 'm[k] = v'. -/
theorem run_store {w : World} {b : Nat} {L : LV} (h : LiveAt w b L) (hroom : L.length < maxLen) {s : Sg} (hs : s.wf) (v : SV) :
    ∃ o, (Instr.mapUpdate 139 (.map (some b)) (sgVal s) (svVal v)).run Tryz.prog w = .ok () (setBlock w b o) ∧ LiveAt (setBlock w b o) b (putL L s v) ∧ Kept (fun k => k = b) w (setBlock w b o) ∧ o.isCells = false := by
  have hbl := h.lt
  have kp : ∀ o, Kept (fun k => k = b) w (setBlock w b o) := fun o => ⟨rfl, rfl, rfl, by simp [setBlock], fun k hk hne => by
    simp only [setBlock]; rw [Array.getElem?_setIfInBounds_ne (fun e => hne e.symm)]⟩
  have hat : ∀ o, (setBlock w b o).heap[b]? = some o := fun o => by simp [setBlock, hbl]
  obtain ⟨es, clock, hb, he⟩ := h
  obtain ⟨kl, hkl⟩ := sg_key hs
  rcases keyLaw.find w hkl es.toList he.keys with ⟨h1, h2⟩ | ⟨j, e0, h1, h2, h3⟩
  · have hg : s ∉ keysL L := (fun hm => by
      obtain ⟨p, hp, e⟩ := List.mem_map.1 (show s ∈ L.map (·.1) from hm)
      have hm2 : (sgVal p.1, svVal p.2) ∈ es.toList.map (fun e => (e.key, e.val)) := he.kv ▸ List.mem_map.2 ⟨p, hp, rfl⟩
      obtain ⟨x, hx, ex⟩ := List.mem_map.1 hm2
      injection ex with e1 e2
      exact h2 x hx (by rw [e1, e]))
    refine ⟨.map (es.push ⟨sgVal s, svVal v, clock⟩) (clock + 1), ?_, ⟨_, _, hat _, ?_⟩, kp _, rfl⟩
    · simp [Instr.mapUpdate, run_underlying Tryz.underlying139, MapKept.run_getObj_map hb, keyLaw.check w false hkl, h1, MapKept.run_setObj_map _ hb, Result.andThen, setBlock]
    · have hp : putL L s v = L ++ [(s, v)] := by unfold putL; rw [if_neg hg]
      refine ⟨by rw [hp]; simp [he.kv], ?_, ?_, ?_, nodup_putL he.nodup, by have := size_LV he; simp; omega⟩
      · intro x hx
        simp at hx
        rcases hx with hx | rfl
        · have := he.born x (by simpa using hx); omega
        · simp
      · rw [Array.toList_push, List.map_append, List.nodup_append]
        refine ⟨he.once, by simp, fun a ha c hc => ?_⟩
        simp at hc; subst hc
        obtain ⟨x, hx, rfl⟩ := List.mem_map.1 ha
        have := he.born x hx; omega
      · rw [hp]; intro p hp
        rcases List.mem_append.1 hp with hp | hp
        · exact he.wf p hp
        · simp at hp; subst hp; exact hs
  · obtain ⟨p, hp, hk, hv⟩ := he.at h2
    have hps : p.1 = s := sg_inj (hk.symm.trans h3)
    have hj : es[j]? = some e0 := by simpa using h2
    have hin : s ∈ keysL L := key_mem hp hps
    have hlist : (es.modify j (fun e' => { e' with key := sgVal s, val := svVal v })).toList = es.toList.set j { e0 with key := sgVal s, val := svVal v } := by rw [Array.toList_modify, modify_eq_set _ _ _ _ h2]
    refine ⟨.map (es.modify j (fun e' => { e' with key := sgVal s, val := svVal v })) clock, ?_, ⟨_, _, hat _, ?_⟩, kp _, rfl⟩
    · simp [Instr.mapUpdate, run_underlying Tryz.underlying139, MapKept.run_getObj_map hb, keyLaw.check w false hkl, h1, hj, h3, keyLaw.stays w hkl, MapKept.run_setObj_map _ hb, Result.andThen, setBlock]
    · have hput : putL L s v = L.set j (s, v) := by
        unfold putL; rw [if_pos hin]
        apply List.ext_getElem?
        intro i
        rw [List.getElem?_map, List.getElem?_set]
        by_cases e : j = i
        · subst e
          have hjl : j < L.length := (List.getElem?_eq_some_iff.1 hp).1
          rw [hp]; simp only [Option.map_some, hps, if_true, hjl]
        · rw [if_neg e]
          cases hi : L[i]? with
          | none => simp
          | some q =>
            have hne : q.1 ≠ s := fun eq => by
              have hpw : L.Pairwise (fun a b => a.1 ≠ b.1) := List.pairwise_map.1 he.nodup
              obtain ⟨hil, ei⟩ := List.getElem?_eq_some_iff.1 hi
              obtain ⟨hjl, ej⟩ := List.getElem?_eq_some_iff.1 hp
              rcases Nat.lt_or_gt_of_ne e with h | h
              · have := List.pairwise_iff_getElem.1 hpw j i hjl hil h; rw [ei, ej] at this; exact this (hps.trans eq.symm)
              · have := List.pairwise_iff_getElem.1 hpw i j hil hjl h; rw [ei, ej] at this; exact this (eq.trans hps.symm)
            simp [hne]
      refine ⟨?_, ?_, ?_, ?_, nodup_putL he.nodup, by simpa using he.size⟩
      · rw [hlist, hput, List.map_set, List.map_set, he.kv]
      · intro x hx
        rw [hlist] at hx
        rcases List.mem_or_eq_of_mem_set hx with hx | rfl
        · exact he.born x hx
        · exact he.born e0 (List.mem_of_getElem? h2)
      · rw [hlist, List.map_set]
        have : (es.toList.map (·.born)).set j e0.born = es.toList.map (·.born) := by
          apply List.ext_getElem?
          intro i
          rw [List.getElem?_set]
          by_cases e : j = i
          · subst e
            have hjl : j < es.toList.length := (List.getElem?_eq_some_iff.1 h2).1
            simp only [List.length_map, hjl, if_true, List.getElem?_map, h2, Option.map_some]
          · rw [if_neg e]
        show ((es.toList.map (·.born)).set j e0.born).Nodup
        rw [this]; exact he.once
      · intro q hq
        rcases mem_putL hq with rfl | ⟨hq, _⟩
        · exact hs
        · exact he.wf q hq
end Go.Proofs.YtgadceofpbfleaaGreat
