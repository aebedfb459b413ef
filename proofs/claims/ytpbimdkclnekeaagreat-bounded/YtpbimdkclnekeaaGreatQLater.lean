import Derived.WalkKit
import Derived.Below
import Derived.Deep.QuietTactic
import Derived.BigQuiet
import Derived.Maps.AppendAt
import Derived.Deep.AppendLies
import Derived.Laws.CopyOwn
import Derived.Laws.CopyRow
import Derived.Laws.IdiomCopy
import Derived.Deep.WholeRow
import Derived.Tactics

namespace Go.Proofs.YtpbimdkclnekeaaGreat
open Go.RowKit

/-- The worlds that are as W was below block B. -/
def Later (B : Nat) (W : World) : Type := { u : World // Below B W u }

theorem Later.some (B : Nat) (W : World) : Nonempty (Later B W) := ⟨⟨W, Below.refl _ _⟩⟩

theorem Later.cell {B : Nat} {W : World} (u : Later B W) (b o : Nat) (h : b < B) : u.1.cell? ⟨b, o, none⟩ = W.cell? ⟨b, o, none⟩ := u.2.cell (p := ⟨b, o, none⟩) h

theorem Calls.later {P : Program} {f : FuncId} {args : Array Value} {B : Nat} {W : World} (hB : B ≤ W.heap.size) {u : Later B W} {v : Value}
    (h : Calls P f args u.1 fun e w' => e = .returned v ∧ Below u.1.heap.size u.1 w') : Calls P f args u.1 fun e w'' => e = .returned v ∧ ∃ x : Later B W, w'' = x.1 :=
  h.mono fun _ w' ⟨he, hb⟩ => ⟨he, ⟨w', u.2.trans (hb.mono (Nat.le_trans hB u.2.size))⟩, rfl⟩

theorem Calls.later_same {P : Program} {f : FuncId} {args : Array Value} {B : Nat} {W : World} {u : Later B W} {v : Value}
    (h : Calls P f args u.1 fun e w' => e = .returned v ∧ w' = u.1) : Calls P f args u.1 fun e w'' => e = .returned v ∧ ∃ x : Later B W, w'' = x.1 :=
  h.mono fun _ _ ⟨he, hb⟩ => ⟨he, u, hb⟩

theorem wp_region_later {P : Program} {id : Nat} {Q : Exit → Act → World → Prop} {a : Act} {w : World} {l : List Oper} (B : Nat) (hm : P.follows .mixedOrders = true) (hx : Region.lexB .any l.toArray = true)
    (h : wpQuiet P l.toArray (fun w' => ∃ u : Later B w, w' = u.1) (fun a' => ∀ u : Later B w, Q .normal a' u.1) l a) : (Code.region id l.toArray true).wp P Q a w :=
  wp_region_quiet (C := fun w' => ∃ u : Later B w, w' = u.1) hm hx ⟨⟨w.drew, (Below.refl _ _).drew⟩, rfl⟩ (by
    have : (fun a' => ∀ w', (∃ u : Later B w, w' = u.1) → Q .normal a' w') = (fun a' => ∀ u : Later B w, Q .normal a' u.1) := by
      funext a'; exact propext ⟨fun h u => h _ ⟨u, rfl⟩, fun h _ ⟨u, e⟩ => e ▸ h u⟩
    rw [this]; simpa using h)
end Go.Proofs.YtpbimdkclnekeaaGreat

namespace Go.Proofs.YtpbimdkclnekeaaGreat
open Go.RowKit

theorem hide {p : Prop} (h : p) : Hid p := h
theorem unhide {p : Prop} (h : Hid p) : p := h

/-- All blocks that were there are as they were, but for those of f. -/
structure Kept (f : Nat → Prop) (w w' : World) : Prop where
  os : w'.os = w.os
  tape : w'.tape = w.tape
  output : w'.output = w.output
  size : w.heap.size ≤ w'.heap.size
  block : ∀ k, k < w.heap.size → ¬ f k → w'.heap[k]? = w.heap[k]?

theorem Kept.refl (f : Nat → Prop) (w : World) : Kept f w w := ⟨rfl, rfl, rfl, Nat.le_refl _, fun _ _ _ => rfl⟩

theorem Kept.trans {f g : Nat → Prop} {a b c : World} (h : Kept f a b) (k : Kept g b c) (hg : ∀ i, i < a.heap.size → g i → f i) : Kept f a c :=
  ⟨k.os.trans h.os, k.tape.trans h.tape, k.output.trans h.output, Nat.le_trans h.size k.size,
   fun i hi hf => (k.block i (Nat.lt_of_lt_of_le hi h.size) (fun hh => hf (hg i hi hh))).trans (h.block i hi hf)⟩

theorem Kept.mono {f g : Nat → Prop} {w w' : World} (h : Kept f w w') (hfg : ∀ i, i < w.heap.size → f i → g i) : Kept g w w' :=
  ⟨h.os, h.tape, h.output, h.size, fun k hk hn => h.block k hk (fun hh => hn (hfg k hk hh))⟩

theorem Kept.drew {f : Nat → Prop} {a w : World} (h : Kept f a w) : Kept f a w.drew := ⟨h.os, h.tape, h.output, h.size, h.block⟩

theorem Kept.of_below {f : Nat → Prop} {w w' : World} (h : Below w.heap.size w w') : Kept f w w' := ⟨h.os, h.tape, h.output, h.size, fun k hk _ => h.block k hk⟩

theorem Kept.alloc {f : Nat → Prop} {a w : World} (h : Kept f a w) (o : Obj) : Kept f a (w.alloc o) :=
  h.trans (g := f) (Kept.of_below ((Below.refl _ _).alloc (Nat.le_refl _) o)) (fun _ _ h => h)

theorem Kept.setCell {f : Nat → Prop} {a w : World} (h : Kept f a w) {p : Addr} (hp : p.block < a.heap.size → f p.block) (u : Value) : Kept f a (w.setCell p u) :=
  h.trans (g := fun k => k = p.block) ⟨rfl, rfl, rfl, by simp [World.setCell], fun k _ hn => Below.heap_setCell _ _ _ _ hn⟩ (fun i hi hg => by subst hg; exact hp hi)

theorem Kept.grown {f : Nat → Prop} {a w w' : World} {row : Option Nat} (h : Kept f a w) (hg : w.grownBy w' row) (hr : ∀ k, row = some k → k < a.heap.size → f k) : Kept f a w' :=
  h.trans (g := fun k => row = some k) ⟨hg.os, hg.tape, hg.output, hg.size, fun k hk hn => hg.block k hk (fun e => hn e.symm)⟩ (fun i hi hh => hr i hh hi)

theorem Kept.below {f : Nat → Prop} {w w' : World} {B : Nat} (h : Kept f w w') (hB : B ≤ w.heap.size) (hf : ∀ k, f k → B ≤ k) : Below B w w' :=
  ⟨h.os, h.tape, h.output, h.size, fun k hk => h.block k (Nat.lt_of_lt_of_le hk hB) (fun hh => by have := hf k hh; omega)⟩

theorem Kept.heap {f : Nat → Prop} {w w' : World} (h : Kept f w w') {k : Nat} {o : Obj} (hk : w.heap[k]? = some o) (hn : ¬ f k) : w'.heap[k]? = some o :=
  (h.block k (Array.getElem?_eq_some_iff.1 hk).1 hn).trans hk

theorem lt_of_heap {w : World} {k : Nat} {o : Obj} (hk : w.heap[k]? = some o) : k < w.heap.size := (Array.getElem?_eq_some_iff.1 hk).1

/-- A row stands where its block has not been turned. -/
theorem owns_kept {f : Nat → Prop} {w w' : World} {base : Nat} {e : TypeId} {size : Nat} {v : Value} {n : Nat} {xs : List Value} (h : w.ownsRow base e size v n xs) (hk : Kept f w w') (hn : ∀ k, v.ownBlock = some k → ¬ f k) : w'.ownsRow base e size v n xs := by
  refine ⟨h.1, ?_⟩
  rcases h.2 with h2 | ⟨g, cap, cur, rfl, hb, hg, r⟩
  · exact .inl h2
  · exact .inr ⟨g, cap, cur, rfl, hb, hk.heap hg (hn g rfl), r⟩

/-- The type of an owned row's block. -/
theorem owns_type {w : World} {base : Nat} {e : TypeId} {size : Nat} {v : Value} {n : Nat} {xs : List Value} (h : w.ownsRow base e size v n xs) {k : Nat} (hk : v.ownBlock = some k) : ∃ cur, w.heap[k]? = some (.cells cur e (0, 0)) := by
  rcases h.2 with ⟨rfl, _⟩ | ⟨g, cap, cur, rfl, _, hg, _⟩
  · cases hk
  · simp [Value.ownBlock] at hk; subst hk; exact ⟨cur, hg⟩

section
variable {P : Program} (w : World)

theorem run_append_keep (t ty : TypeId) (base : Nat) (e : TypeId) (i : TypeInfo) (z : Value) (size bytes : Nat) (ht : P.underlying t = some (.slice e)) (hi : P.info? e = some i) (hz : i.zero = some z)
    (hsize : i.size = size) (hby : i.bytes = bytes) (hzs : z.cells.size = size) (hsz : 0 < size)
    (v : Value) (n : Nat) (xs : List Value) (hown : w.ownsRow base e size v n xs)
    (ad : Addr) (m c : Nat) (news : List Value) (hl : news.length = m * size) (hnews : ∀ j u, news[j]? = some u → w.cell? (ad.add j) = some u) (h1 : ∀ u ∈ news, u.oneCell' = true)
    (hm : 0 < m) (h63 : n + m ≤ maxLen) (hbytes : (n + m) * bytes ≤ 140737488355328) (hbase : base ≤ w.heap.size) :
    ∃ g cap w', (Builtin.append_ #[t, t] ty #[v, .slice (some ad) m c]).run P w = .ok (.slice (some ⟨g, 0, none⟩) (n + m) cap) w' ∧
      w'.ownsRow base e size (.slice (some ⟨g, 0, none⟩) (n + m) cap) (n + m) (xs ++ news) ∧ w'.ownsRow base e size v n xs ∧ w.grownBy w' v.ownBlock ∧ (v.ownBlock = some g ∨ g = w.heap.size) ∧ g < w'.heap.size := by
  obtain ⟨v', w', hr, h2, h3, _, h5⟩ := run_append_own_at (P := P) w base t ty e i z size bytes ht hi hz hsize hby hzs hsz v n xs hown ad m c news hl hnews h1 h63 hbytes hbase
  obtain ⟨g, cap, rfl, _, hlt⟩ := h2.form (by omega)
  refine ⟨g, cap, w', hr, h2, ?_, h3, ?_, hlt⟩
  · refine ⟨hown.1, ?_⟩
    rcases hown.2 with hn | ⟨g0, cap0, cur, rfl, hb, hg, hnc, hcm, hcs, htk⟩
    · exact .inl hn
    · right
      subst hsize
      subst hby
      by_cases hroom : n + m ≤ cap0
      · have hfit : n * i.size + news.length ≤ cur.size := by rw [hl, hcs, ← Nat.add_mul]; exact Nat.mul_le_mul_right _ hroom
        have hr2 := run_append_room (P := P) w t ty e i ht hi g0 n cap0 cur hg ad m c news hl hnews h1 hroom hfit
        rw [hr] at hr2
        injection hr2 with _ hw
        subst hw
        refine ⟨g0, cap0, _, rfl, hb, setRow_heap w g0 cur _ e _ hg, hnc, hcm, ?_, ?_⟩
        · simp only [List.size_toArray, List.length_append, List.length_take, List.length_drop, Array.length_toList]
          omega
        · have hx : xs.length = n * i.size := hown.1
          simp only [htk]
          rw [List.append_assoc, ← hx]
          exact List.take_left
      · have hsmall : n + m ≤ 9223372036854775807 := by simp only [maxLen] at h63; omega
        have holds : ∀ j u, xs[j]? = some u → w.cell? ((⟨g0, 0, none⟩ : Addr).add j) = some u := hown.cells (g := g0) rfl
        have hr2 := run_append_grow (P := P) w t ty e i z ht hi hz ⟨g0, 0, none⟩ n cap0 xs hown.1 holds ad m c news hl hnews (by omega) (by omega) (growslice_fits (by omega) hbytes)
        rw [hr] at hr2
        injection hr2 with _ hw
        subst hw
        exact ⟨g0, cap0, cur, rfl, hb, (Below.heap_alloc w.drew _ g0 (lt_of_heap hg)).trans hg, hnc, hcm, hcs, htk⟩
  · rcases h5 with h5 | h5
    · exact .inl (h5.symm.trans rfl)
    · simp [Value.ownBlock] at h5; exact .inr h5

theorem wpList_append_keep {w : World} {ops : Array Oper} {rest : List Oper} {o : Oper} {a : Act} {Q : Exit → Act → World → Prop} (hgd : o.guard = none) (s x : Operand) (t : TypeId)
    (ho : o.op = .call { callee := .builtin .append, args := #[s, x], argTypes := #[t, t] })
    (base : Nat) (e : TypeId) (z : Value) (size bytes : Nat) (ht : P.underlying t = some (.slice e)) (hinfo : (P.info? e).map (fun i => (i.zero, i.size, i.bytes)) = some (some z, size, bytes)) (hzs : z.cells.size = size) (hsz : 0 < size)
    (v : Value) (n : Nat) (xs : List Value) (hs : a.eval s = v) (hown : w.ownsRow base e size v n xs)
    (ad : Addr) (m c : Nat) (news : List Value) (hx : a.eval x = .slice (some ad) m c) (hl : news.length = m * size) (hnews : ∀ j u, news[j]? = some u → w.cell? (ad.add j) = some u) (h1 : ∀ u ∈ news, u.oneCell' = true)
    (hm : 0 < m) (h63 : n + m ≤ maxLen) (hbytes : (n + m) * bytes ≤ 140737488355328) (hbase : base ≤ w.heap.size)
    (h : ∀ g cap w', w'.ownsRow base e size (.slice (some ⟨g, 0, none⟩) (n + m) cap) (n + m) (xs ++ news) → w'.ownsRow base e size v n xs → w.grownBy w' v.ownBlock → (v.ownBlock = some g ∨ g = w.heap.size) → g < w'.heap.size → wpList P ops Q rest (a.put o.dst (.slice (some ⟨g, 0, none⟩) (n + m) cap)) w') : wpList P ops Q (o :: rest) a w := by
  cases hq : P.info? e with
  | none => simp [hq] at hinfo
  | some i =>
    simp only [hq, Option.map_some, Option.some.injEq, Prod.mk.injEq] at hinfo
    obtain ⟨hz, hsize, hby⟩ := hinfo
    refine wpList_plain hgd fun K hK => ?_
    obtain ⟨g, cap, w', hr, h2, h3, h4, h5, h6⟩ := run_append_keep (P := P) w t o.type base e i z size bytes ht hq hz hsize hby hzs hsz v n xs hown ad m c news hl hnews h1 hm h63 hbytes hbase
    unfold Oper.wp
    simp [execOp, ho, resolve, invoke, builtin, hs, hx, hr, Result.andThen]
    exact hK _ _ (h g cap w' h2 h3 h4 h5 h6)
end

end Go.Proofs.YtpbimdkclnekeaaGreat

namespace Go.Proofs.YtpbimdkclnekeaaGreat
open Go.RowKit

theorem run_copy_wide {P : Program} (w : World) (dT sT ty elem : TypeId) (sz : Nat) (g dLen dCap : Nat) (sp : Option Addr) (sLen sCap : Nat) (cur : Array Value) (t : TypeId) (cs : List Value)
    (hu : P.underlying dT = some (.slice elem)) (hs : (P.info? elem).map (·.size) = some sz) (hg : w.heap[g]? = some (.cells cur t (0, 0))) (hn : cs.length = Nat.min sLen dLen * sz)
    (hsrc : 0 < cs.length → ∃ ad, sp = some ad ∧ ∀ j v, cs[j]? = some v → w.cell? (ad.add j) = some v) (hfit : cs.length ≤ cur.size) (h1 : ∀ v ∈ cs, v.oneCell' = true) :
    (Builtin.copy_ #[dT, sT] ty #[.slice (some ⟨g, 0, none⟩) dLen dCap, .slice sp sLen sCap]).run P w = .ok (goInt (Nat.min sLen dLen)) (w.setRow g (cs ++ cur.toList.drop cs.length).toArray) := by
  have hst := run_storeCells_at P g 0 t cs 0 cur w hg (by simpa using hfit) h1
  cases hq : P.info? elem with
  | none => simp [hq] at hs
  | some i =>
    have hi : i.size = sz := by simpa [hq] using hs
    by_cases h0 : cs.length = 0
    · obtain rfl : cs = [] := List.eq_nil_of_length_eq_zero h0
      have hz : Nat.min sLen dLen * sz = 0 := by simpa using hn.symm
      have hl : ∀ (x : Addr), (loadCells x 0).run P w = .ok #[] w := fun x => by simpa using run_loadCells_list (P := P) w x [] (by simp)
      have hself := setRow_self w g cur t (0, 0) hg
      cases sp <;> simp [Builtin.copy_, run_underlying hu, Builtin.lenOf, Builtin.firstCells, sizeOf, typeInfo, hq, hi, hz, storeCells, hl, hself]
    · obtain ⟨ad, rfl, hc⟩ := hsrc (by omega)
      have hl := run_loadCells_list (P := P) w ad cs hc
      simp [Builtin.copy_, run_underlying hu, Builtin.lenOf, Builtin.firstCells, sizeOf, typeInfo, hq, hi, ← hn, hl, hst]

/-- a list of triples, cell by cell. -/
def cell3 (F W K : Nat → Int) (j : Nat) : Value := if j % 3 = 0 then .int .i64 (F (j / 3)) else if j % 3 = 1 then .int .i64 (W (j / 3)) else .int .i64 (K (j / 3))
theorem cell3_0 (F W K : Nat → Int) (i : Nat) : cell3 F W K (i * 3) = .int .i64 (F i) := by
  unfold cell3; rw [if_pos (by omega), show i * 3 / 3 = i by omega]
theorem cell3_1 (F W K : Nat → Int) (i : Nat) : cell3 F W K (i * 3 + 1) = .int .i64 (W i) := by
  unfold cell3; rw [if_neg (by omega), if_pos (by omega), show (i * 3 + 1) / 3 = i by omega]
theorem cell3_2 (F W K : Nat → Int) (i : Nat) : cell3 F W K (i * 3 + 2) = .int .i64 (K i) := by
  unfold cell3; rw [if_neg (by omega), if_neg (by omega), show (i * 3 + 2) / 3 = i by omega]
def row3 (n : Nat) (F W K : Nat → Int) : List Value := (List.range (n * 3)).map (cell3 F W K)
theorem row3_length (n : Nat) (F W K : Nat → Int) : (row3 n F W K).length = n * 3 := by simp [row3]
theorem row3_get (n : Nat) (F W K : Nat → Int) (j : Nat) (h : j < n * 3) : (row3 n F W K)[j]? = some (cell3 F W K j) := by simp [row3, h]
theorem row3_one (n : Nat) (F W K : Nat → Int) : ∀ v ∈ row3 n F W K, v.oneCell' = true := by
  intro v hv
  simp only [row3, List.mem_map] at hv
  obtain ⟨j, _, rfl⟩ := hv
  unfold cell3
  split
  · rfl
  · split <;> rfl
end Go.Proofs.YtpbimdkclnekeaaGreat
