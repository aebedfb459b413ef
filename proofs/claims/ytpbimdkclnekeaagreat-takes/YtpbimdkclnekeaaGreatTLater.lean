import Derived.WalkKit
import Derived.Below
import Derived.Deep.QuietTactic
import Derived.BigQuiet
import Derived.Maps.AppendAt
import Derived.Deep.AppendLies
import Derived.Laws.CopyOwn
import Derived.Laws.CopyRow
import Derived.Laws.IdiomCopy
import Derived.Deep.WholeRow
import Derived.Tactics
import Derived.Test.YtpbimdkclnekeaaGreatRows
import Derived.Test.YtpbimdkclnekeaaGreatTConf0
import Derived.WalkSpells
import Derived.WalkLawsBesides

namespace Go.Proofs.YtpbimdkclnekeaaGreat
open Go.RowKit
def zaf (B : Nat) (W : World) : Type := { u : World // Below B W u }
theorem zaf.some (B : Nat) (W : World) : Nonempty (zaf B W) := ⟨⟨W, Below.refl _ _⟩⟩
theorem zaf.cell {B : Nat} {W : World} (u : zaf B W) (b o : Nat) (h : b < B) : u.1.cell? ⟨b, o, none⟩ = W.cell? ⟨b, o, none⟩ := u.2.cell (p := ⟨b, o, none⟩) h
theorem Calls.later {P : Program} {f : FuncId} {args : Array Value} {B : Nat} {W : World} (hB : B <= W.heap.size) {u : zaf B W} {v : Value}
  (h : Calls P f args u.1 fun e w' => e = .returned v /\ Below u.1.heap.size u.1 w') : Calls P f args u.1 fun e w'' => e = .returned v /\ ∃ x : zaf B W, w'' = x.1 :=
 h.mono fun _ w' ⟨he, hb⟩ => ⟨he, ⟨w', u.2.trans (hb.mono (Nat.le_trans hB u.2.size))⟩, rfl⟩
theorem Calls.later_same {P : Program} {f : FuncId} {args : Array Value} {B : Nat} {W : World} {u : zaf B W} {v : Value}
  (h : Calls P f args u.1 fun e w' => e = .returned v /\ w' = u.1) : Calls P f args u.1 fun e w'' => e = .returned v /\ ∃ x : zaf B W, w'' = x.1 :=
 h.mono fun _ _ ⟨he, hb⟩ => ⟨he, u, hb⟩
theorem zad {P : Program} {id : Nat} {Q : Exit -> Act -> World -> Prop} {a : Act} {w : World} {l : List Oper} (B : Nat) (hm : P.follows .mixedOrders = true) (hx : Region.lexB .any l.toArray = true)
  (h : wpQuiet P l.toArray (fun w' => ∃ u : zaf B w, w' = u.1) (fun a' => ∀ u : zaf B w, Q .normal a' u.1) l a) : (Code.region id l.toArray true).wp P Q a w :=
 wp_region_quiet (C := fun w' => ∃ u : zaf B w, w' = u.1) hm hx ⟨⟨w.drew, (Below.refl _ _).drew⟩, rfl⟩ (by
  have : (fun a' => ∀ w', (∃ u : zaf B w, w' = u.1) -> Q .normal a' w') = (fun a' => ∀ u : zaf B w, Q .normal a' u.1) := by
   funext a'; exact propext ⟨fun h u => h _ ⟨u, rfl⟩, fun h _ ⟨u, e⟩ => e ▸ h u⟩
  rw [this]; simpa using h)
theorem zab {p : Prop} (h : p) : Hid p := h
theorem ud {p : Prop} (h : Hid p) : p := h
structure zan (f : Nat -> Prop) (w w' : World) : Prop where
 os : w'.os = w.os
 tape : w'.tape = w.tape
 output : w'.output = w.output
 size : w.heap.size <= w'.heap.size
 block : ∀ k, k < w.heap.size -> ¬ f k -> w'.heap[k]? = w.heap[k]?
theorem zan.refl (f : Nat -> Prop) (w : World) : zan f w w := ⟨rfl, rfl, rfl, Nat.le_refl _, fun _ _ _ => rfl⟩
theorem zan.trans {f g : Nat -> Prop} {a b c : World} (h : zan f a b) (k : zan g b c) (hg : ∀ i, i < a.heap.size -> g i -> f i) : zan f a c :=
 ⟨k.os.trans h.os, k.tape.trans h.tape, k.output.trans h.output, Nat.le_trans h.size k.size,
  fun i hi hf => (k.block i (Nat.lt_of_lt_of_le hi h.size) (fun hh => hf (hg i hi hh))).trans (h.block i hi hf)⟩
theorem zan.mono {f g : Nat -> Prop} {w w' : World} (h : zan f w w') (hfg : ∀ i, i < w.heap.size -> f i -> g i) : zan g w w' :=
 ⟨h.os, h.tape, h.output, h.size, fun k hk hn => h.block k hk (fun hh => hn (hfg k hk hh))⟩
theorem zan.drew {f : Nat -> Prop} {a w : World} (h : zan f a w) : zan f a w.drew := ⟨h.os, h.tape, h.output, h.size, h.block⟩
theorem zan.of_below {f : Nat -> Prop} {w w' : World} (h : Below w.heap.size w w') : zan f w w' := ⟨h.os, h.tape, h.output, h.size, fun k hk _ => h.block k hk⟩
theorem zan.alloc {f : Nat -> Prop} {a w : World} (h : zan f a w) (o : Obj) : zan f a (w.alloc o) :=
 h.trans (g := f) (zan.of_below ((Below.refl _ _).alloc (Nat.le_refl _) o)) (fun _ _ h => h)
theorem zan.setCell {f : Nat -> Prop} {a w : World} (h : zan f a w) {p : Addr} (hp : p.block < a.heap.size -> f p.block) (u : Value) : zan f a (w.setCell p u) :=
 h.trans (g := fun k => k = p.block) ⟨rfl, rfl, rfl, by simp [World.setCell], fun k _ hn => Below.heap_setCell _ _ _ _ hn⟩ (fun i hi hg => by subst hg; exact hp hi)
theorem zan.grown {f : Nat -> Prop} {a w w' : World} {row : Option Nat} (h : zan f a w) (hg : w.grownBy w' row) (hr : ∀ k, row = some k -> k < a.heap.size -> f k) : zan f a w' :=
 h.trans (g := fun k => row = some k) ⟨hg.os, hg.tape, hg.output, hg.size, fun k hk hn => hg.block k hk (fun e => hn e.symm)⟩ (fun i hi hh => hr i hh hi)
theorem zan.below {f : Nat -> Prop} {w w' : World} {B : Nat} (h : zan f w w') (hB : B <= w.heap.size) (hf : ∀ k, f k -> B <= k) : Below B w w' :=
 ⟨h.os, h.tape, h.output, h.size, fun k hk => h.block k (Nat.lt_of_lt_of_le hk hB) (fun hh => by have := hf k hh; omega)⟩
theorem zan.heap {f : Nat -> Prop} {w w' : World} (h : zan f w w') {k : Nat} {o : Obj} (hk : w.heap[k]? = some o) (hn : ¬ f k) : w'.heap[k]? = some o :=
 (h.block k (Array.getElem?_eq_some_iff.1 hk).1 hn).trans hk
theorem zaa {w : World} {k : Nat} {o : Obj} (hk : w.heap[k]? = some o) : k < w.heap.size := (Array.getElem?_eq_some_iff.1 hk).1
theorem zae {f : Nat -> Prop} {w w' : World} {base : Nat} {e : TypeId} {size : Nat} {v : Value} {n : Nat} {xs : List Value} (h : w.ownsRow base e size v n xs) (hk : zan f w w') (hn : ∀ k, v.ownBlock = some k -> ¬ f k) : w'.ownsRow base e size v n xs := by
 refine ⟨h.1, ?_⟩
 rcases h.2 with h2 | ⟨g, cap, cur, rfl, hb, hg, r⟩
 ·exact .inl h2
 ·exact .inr ⟨g, cap, cur, rfl, hb, hk.heap hg (hn g rfl), r⟩
theorem zbp {w : World} {base : Nat} {e : TypeId} {size : Nat} {v : Value} {n : Nat} {xs : List Value} (h : w.ownsRow base e size v n xs) {k : Nat} (hk : v.ownBlock = some k) : ∃ cur, w.heap[k]? = some (.cells cur e (0, 0)) := by
 rcases h.2 with ⟨rfl, _⟩ | ⟨g, cap, cur, rfl, _, hg, _⟩
 ·cases hk
 ·simp [Value.ownBlock] at hk; subst hk; exact ⟨cur, hg⟩
section
variable {P : Program} (w : World)
theorem run_append_keep (t ty : TypeId) (base : Nat) (e : TypeId) (i : TypeInfo) (z : Value) (size bytes : Nat) (ht : P.underlying t = some (.slice e)) (hi : P.info? e = some i) (hz : i.zero = some z)
  (hsize : i.size = size) (hby : i.bytes = bytes) (hzs : z.cells.size = size) (hsz : 0 < size)
  (v : Value) (n : Nat) (xs : List Value) (hown : w.ownsRow base e size v n xs)
  (ad : Addr) (m c : Nat) (news : List Value) (hl : news.length = m * size) (hnews : ∀ j u, news[j]? = some u -> w.cell? (ad.add j) = some u) (h1 : ∀ u ∈ news, u.oneCell' = true)
  (hm : 0 < m) (h63 : n + m <= maxLen) (hbytes : (n + m) * bytes <= 140737488355328) (hbase : base <= w.heap.size) :
  ∃ g cap w', (Builtin.append_ #[t, t] ty #[v, .slice (some ad) m c]).run P w = .ok (.slice (some ⟨g, 0, none⟩) (n + m) cap) w' /\
   w'.ownsRow base e size (.slice (some ⟨g, 0, none⟩) (n + m) cap) (n + m) (xs ++ news) /\ w'.ownsRow base e size v n xs /\ w.grownBy w' v.ownBlock /\ (v.ownBlock = some g \/ g = w.heap.size) /\ g < w'.heap.size := by
 obtain ⟨v', w', hr, h2, h3, _, h5⟩ := run_append_own_at (P := P) w base t ty e i z size bytes ht hi hz hsize hby hzs hsz v n xs hown ad m c news hl hnews h1 h63 hbytes hbase
 obtain ⟨g, cap, rfl, _, hlt⟩ := h2.form (by omega)
 refine ⟨g, cap, w', hr, h2, ?_, h3, ?_, hlt⟩
 ·refine ⟨hown.1, ?_⟩
  rcases hown.2 with hn | ⟨g0, cap0, cur, rfl, hb, hg, hnc, hcm, hcs, htk⟩
  ·exact .inl hn
  ·right
   subst hsize
   subst hby
   by_cases hroom : n + m <= cap0
   ·have hfit : n * i.size + news.length <= cur.size := by rw [hl, hcs, <- Nat.add_mul]; exact Nat.mul_le_mul_right _ hroom
    have hr2 := run_append_room (P := P) w t ty e i ht hi g0 n cap0 cur hg ad m c news hl hnews h1 hroom hfit
    rw [hr] at hr2
    injection hr2 with _ hw
    subst hw
    refine ⟨g0, cap0, _, rfl, hb, setRow_heap w g0 cur _ e _ hg, hnc, hcm, ?_, ?_⟩
    ·simp only [List.size_toArray, List.length_append, List.length_take, List.length_drop, Array.length_toList]
     omega
    ·have hx : xs.length = n * i.size := hown.1
     simp only [htk]
     rw [List.append_assoc, <- hx]
     exact List.take_left
   ·have hsmall : n + m <= 9223372036854775807 := by simp only [maxLen] at h63; omega
    have holds : ∀ j u, xs[j]? = some u -> w.cell? ((⟨g0, 0, none⟩ : Addr).add j) = some u := hown.cells (g := g0) rfl
    have hr2 := run_append_grow (P := P) w t ty e i z ht hi hz ⟨g0, 0, none⟩ n cap0 xs hown.1 holds ad m c news hl hnews (by omega) (by omega) (growslice_fits (by omega) hbytes)
    rw [hr] at hr2
    injection hr2 with _ hw
    subst hw
    exact ⟨g0, cap0, cur, rfl, hb, (Below.heap_alloc w.drew _ g0 (zaa hg)).trans hg, hnc, hcm, hcs, htk⟩
 ·rcases h5 with h5 | h5
  ·exact .inl (h5.symm.trans rfl)
  ·simp [Value.ownBlock] at h5; exact .inr h5
theorem zbg {w : World} {ops : Array Oper} {rest : List Oper} {o : Oper} {a : Act} {Q : Exit -> Act -> World -> Prop} (hgd : o.guard = none) (s x : Operand) (t : TypeId)
  (ho : o.op = .call { callee := .builtin .append, args := #[s, x], argTypes := #[t, t] })
  (base : Nat) (e : TypeId) (z : Value) (size bytes : Nat) (ht : P.underlying t = some (.slice e)) (hinfo : (P.info? e).map (fun i => (i.zero, i.size, i.bytes)) = some (some z, size, bytes)) (hzs : z.cells.size = size) (hsz : 0 < size)
  (v : Value) (n : Nat) (xs : List Value) (hs : a.eval s = v) (hown : w.ownsRow base e size v n xs)
  (ad : Addr) (m c : Nat) (news : List Value) (hx : a.eval x = .slice (some ad) m c) (hl : news.length = m * size) (hnews : ∀ j u, news[j]? = some u -> w.cell? (ad.add j) = some u) (h1 : ∀ u ∈ news, u.oneCell' = true)
  (hm : 0 < m) (h63 : n + m <= maxLen) (hbytes : (n + m) * bytes <= 140737488355328) (hbase : base <= w.heap.size)
  (h : ∀ g cap w', w'.ownsRow base e size (.slice (some ⟨g, 0, none⟩) (n + m) cap) (n + m) (xs ++ news) -> w'.ownsRow base e size v n xs -> w.grownBy w' v.ownBlock -> (v.ownBlock = some g \/ g = w.heap.size) -> g < w'.heap.size -> wpList P ops Q rest (a.put o.dst (.slice (some ⟨g, 0, none⟩) (n + m) cap)) w') : wpList P ops Q (o :: rest) a w := by
 cases hq : P.info? e with
 | none => simp [hq] at hinfo
 | some i =>
  simp only [hq, Option.map_some, Option.some.injEq, Prod.mk.injEq] at hinfo
  obtain ⟨hz, hsize, hby⟩ := hinfo
  refine wpList_plain hgd fun K hK => ?_
  obtain ⟨g, cap, w', hr, h2, h3, h4, h5, h6⟩ := run_append_keep (P := P) w t o.type base e i z size bytes ht hq hz hsize hby hzs hsz v n xs hown ad m c news hl hnews h1 hm h63 hbytes hbase
  unfold Oper.wp
  simp [execOp, ho, resolve, invoke, builtin, hs, hx, hr, Result.andThen]
  exact hK _ _ (h g cap w' h2 h3 h4 h5 h6)
end
end Go.Proofs.YtpbimdkclnekeaaGreat

namespace Go.Proofs.YtpbimdkclnekeaaGreat
open Value (int)
open IntKind (i64)
open Go.RowKit
theorem run_copy_wide {P : Program} (w : World) (dT sT ty elem : TypeId) (sz : Nat) (g dLen dCap : Nat) (sp : Option Addr) (sLen sCap : Nat) (cur : Array Value) (t : TypeId) (cs : List Value)
  (hu : P.underlying dT = some (.slice elem)) (hs : (P.info? elem).map (·.size) = some sz) (hg : w.heap[g]? = some (.cells cur t (0, 0))) (hn : cs.length = Nat.min sLen dLen * sz)
  (hsrc : 0 < cs.length -> ∃ ad, sp = some ad /\ ∀ j v, cs[j]? = some v -> w.cell? (ad.add j) = some v) (hfit : cs.length <= cur.size) (h1 : ∀ v ∈ cs, v.oneCell' = true) :
  (Builtin.copy_ #[dT, sT] ty #[.slice (some ⟨g, 0, none⟩) dLen dCap, .slice sp sLen sCap]).run P w = .ok (goInt (Nat.min sLen dLen)) (w.setRow g (cs ++ cur.toList.drop cs.length).toArray) := by
 have hst := run_storeCells_at P g 0 t cs 0 cur w hg (by simpa using hfit) h1
 cases hq : P.info? elem with
 | none => simp [hq] at hs
 | some i =>
  have hi : i.size = sz := by simpa [hq] using hs
  by_cases h0 : cs.length = 0
  ·obtain rfl : cs = [] := List.eq_nil_of_length_eq_zero h0
   have hz : Nat.min sLen dLen * sz = 0 := by simpa using hn.symm
   have hl : ∀ (x : Addr), (loadCells x 0).run P w = .ok #[] w := fun x => by simpa using run_loadCells_list (P := P) w x [] (by simp)
   have hself := setRow_self w g cur t (0, 0) hg
   cases sp <;> simp [Builtin.copy_, run_underlying hu, Builtin.lenOf, Builtin.firstCells, sizeOf, typeInfo, hq, hi, hz, storeCells, hl, hself]
  ·obtain ⟨ad, rfl, hc⟩ := hsrc (by omega)
   have hl := run_loadCells_list (P := P) w ad cs hc
   simp [Builtin.copy_, run_underlying hu, Builtin.lenOf, Builtin.firstCells, sizeOf, typeInfo, hq, hi, <- hn, hl, hst]
def cell3 (F W K : Nat -> Int) (j : Nat) : Value := if j % 3 = 0 then int i64 (F (j / 3)) else if j % 3 = 1 then int i64 (W (j / 3)) else int i64 (K (j / 3))
theorem cell3_0 (F W K : Nat -> Int) (i : Nat) : cell3 F W K (i * 3) = int i64 (F i) := by
 unfold cell3; rw [if_pos (by omega), show i * 3 / 3 = i by omega]
theorem cell3_1 (F W K : Nat -> Int) (i : Nat) : cell3 F W K (i * 3 + 1) = int i64 (W i) := by
 unfold cell3; rw [if_neg (by omega), if_pos (by omega), show (i * 3 + 1) / 3 = i by omega]
theorem cell3_2 (F W K : Nat -> Int) (i : Nat) : cell3 F W K (i * 3 + 2) = int i64 (K i) := by
 unfold cell3; rw [if_neg (by omega), if_neg (by omega), show (i * 3 + 2) / 3 = i by omega]
def row3 (n : Nat) (F W K : Nat -> Int) : List Value := (List.range (n * 3)).map (cell3 F W K)
theorem zbu (n : Nat) (F W K : Nat -> Int) : (row3 n F W K).length = n * 3 := by simp [row3]
theorem row3_get (n : Nat) (F W K : Nat -> Int) (j : Nat) (h : j < n * 3) : (row3 n F W K)[j]? = some (cell3 F W K j) := by simp [row3, h]
theorem row3_one (n : Nat) (F W K : Nat -> Int) : ∀ v ∈ row3 n F W K, v.oneCell' = true := by
 intro v hv
 simp only [row3, List.mem_map] at hv
 obtain ⟨j, _, rfl⟩ := hv
 unfold cell3
 split
 ·rfl
 ·split <;> rfl
def TS (w : World) (a : Option Addr) (n : Nat) (F W K : Nat -> Int) : Prop :=
 0 < n -> ∃ b off, a = some ⟨b, off, none⟩ /\ b < w.heap.size /\ ∀ i, i < n -> w.cell? ⟨b, off + i * 3, none⟩ = some (int i64 (F i)) /\ w.cell? ⟨b, off + i * 3 + 1, none⟩ = some (int i64 (W i)) /\ w.cell? ⟨b, off + i * 3 + 2, none⟩ = some (int i64 (K i))
theorem TS.below {w w' : World} {a : Option Addr} {n : Nat} {F W K : Nat -> Int} (h : TS w a n F W K) (hb : Below w.heap.size w w') : TS w' a n F W K := fun h0 => by
 obtain ⟨b, off, rfl, hlt, hc⟩ := h h0
 have e : ∀ o, w'.cell? ⟨b, o, none⟩ = w.cell? ⟨b, o, none⟩ := fun o => hb.cell (p := ⟨b, o, none⟩) hlt
 exact ⟨b, off, rfl, Nat.lt_of_lt_of_le hlt hb.size, fun i hi => by simp only [e]; exact hc i hi⟩
theorem bcell {W w1 : World} (hb : Below W.heap.size W w1) : (∀ b o, b < W.heap.size -> w1.cell? ⟨b, o, none⟩ = W.cell? ⟨b, o, none⟩) /\ (∀ b o, b < W.heap.size -> w1.frozen? ⟨b, o, none⟩ = W.frozen? ⟨b, o, none⟩) :=
 ⟨fun b o h => hb.cell (p := ⟨b, o, none⟩) h, fun b o h => hb.frozen (p := ⟨b, o, none⟩) h⟩
theorem cell_at (w : World) (C : Array Value) (t : TypeId) (fr : Nat × Nat) (n j : Nat) (hn : n = w.heap.size) : (w.alloc (.cells C t fr)).cell? ⟨n, j, none⟩ = C[j]? := by
 subst hn
 exact World.cell?_alloc_mark w C t fr j
def CF (w : World) (p : Nat) (s le la wi ke qu : Int) (a : Option Addr) (n cap : Nat) : Prop :=
 p < w.heap.size /\ w.cell? ⟨p, 0, none⟩ = some (int i64 s) /\ w.cell? ⟨p, 1, none⟩ = some (int i64 le) /\ w.cell? ⟨p, 2, none⟩ = some (int i64 la) /\ w.cell? ⟨p, 3, none⟩ = some (int i64 wi) /\ w.cell? ⟨p, 4, none⟩ = some (int i64 ke) /\ w.cell? ⟨p, 5, none⟩ = some (int i64 qu) /\ w.cell? ⟨p, 6, none⟩ = some (.slice a n cap)
theorem CF.made (w : World) (t : TypeId) (fr : Nat × Nat) (s le la wi ke qu : Int) (a : Option Addr) (n cap : Nat) :
  CF (w.alloc (.cells #[int i64 s, int i64 le, int i64 la, int i64 wi, int i64 ke, int i64 qu, .slice a n cap] t fr)) w.heap.size s le la wi ke qu a n cap := by
 refine ⟨by simp, ?_, ?_, ?_, ?_, ?_, ?_, ?_⟩ <;> rw [cell_at _ _ _ _ _ _ rfl] <;> rfl
theorem CF.below {w w' : World} {p B : Nat} {s le la wi ke qu : Int} {a : Option Addr} {n cap : Nat} (h : CF w p s le la wi ke qu a n cap) (hb : Below B w w') (hB : p < B) : CF w' p s le la wi ke qu a n cap := by
 have e : ∀ o, w'.cell? ⟨p, o, none⟩ = w.cell? ⟨p, o, none⟩ := fun o => hb.cell (p := ⟨p, o, none⟩) hB
 obtain ⟨h0, h⟩ := h
 exact ⟨Nat.lt_of_lt_of_le h0 hb.size, by simp only [e]; exact h⟩
theorem zaq {a b : Bool} (h : a = b) : Ending.returned (.bool a) = .returned (.bool b) := by rw [h]
theorem ret_int {k : IntKind} {a b : Int} (h : a = b) : Ending.returned (.int k a) = .returned (.int k b) := by rw [h]
set_option maxHeartbeats 400000 in
theorem zcp (x lo hi : Int) (w : World) :
  Calls Tryz.prog 77 #[int i64 x, int i64 lo, int i64 hi] w fun e w' => e = .returned (.bool (inB x lo hi)) /\ w' = w := by
 by_cases h1 : lo <= x
 ·by_cases h2 : x <= hi
  all_goals
   go_enter Tryz.func77, Tryz.ntmps77
   go_wp2
   go_ret
   exact ⟨zaq (by simp [inB, *]), rfl⟩
 ·go_enter Tryz.func77, Tryz.ntmps77
  go_wp2
  go_ret
  exact ⟨zaq (by simp [inB]; omega), rfl⟩
set_option maxHeartbeats 400000 in
theorem in_any (x lo hi : Int) (w : World) :
  Calls Tryz.prog 99 #[int i64 x, int i64 lo, int i64 hi] w fun e w' => e = .returned (.bool (inB x lo hi)) /\ w' = w := by
 by_cases h1 : lo <= x
 ·by_cases h2 : x <= hi
  all_goals
   go_enter Tryz.func99, Tryz.ntmps99
   go_wp2
   go_ret
   exact ⟨zaq (by simp [inB, *]), rfl⟩
 ·go_enter Tryz.func99, Tryz.ntmps99
  go_wp2
  go_ret
  exact ⟨zaq (by simp [inB]; omega), rfl⟩
set_option maxHeartbeats 400000 in
theorem width_raw (s le la wi ke qu : Int) (a : Option Addr) (n cap : Nat) (w : World) :
  Calls Tryz.prog 206 #[.agg #[int i64 s, int i64 le, int i64 la, int i64 wi, int i64 ke, int i64 qu, .slice a n cap], int i64 (-1)] w fun e w' => e = .returned (int i64 wi) /\ Below w.heap.size w w' := by
 go_enter Tryz.func206, Tryz.ntmps206
 go_wp2
 go_ret
 exact ⟨rfl, (Below.refl _ _).alloc (Nat.le_refl _) _⟩
set_option maxHeartbeats 400000 in
theorem width_tier (s le la wi ke qu : Int) (a : Option Addr) (n cap : Nat) (F W K : Nat -> Int) (i : Nat) (hi : i < n) (hn : n <= 4) (w : World) (h : TS w a n F W K) :
  Calls Tryz.prog 206 #[.agg #[int i64 s, int i64 le, int i64 la, int i64 wi, int i64 ke, int i64 qu, .slice a n cap], int i64 i] w fun e w' => e = .returned (int i64 (W i)) /\ Below w.heap.size w w' := by
 obtain ⟨b, off, rfl, hbz, hc⟩ := h (by omega)
 obtain ⟨h1, h2, h3⟩ := hc i hi
 have hne : ((i : Int) == -1) = false := beq_eq_false_iff_ne.2 (by omega)
 have hlt : (i : Int) < n := by omega
 go_enter Tryz.func206, Tryz.ntmps206
 go_wp2
 go_ret
 exact ⟨rfl, (Below.refl _ _).alloc (Nat.le_refl _) _⟩
set_option maxHeartbeats 400000 in
theorem Width_raw (s le la wi ke qu : Int) (a : Option Addr) (n cap : Nat) (w : World) :
  Calls Tryz.prog 101 #[.agg #[int i64 s, int i64 le, int i64 la, int i64 wi, int i64 ke, int i64 qu, .slice a n cap], int i64 (-1)] w fun e w' => e = .returned (int i64 wi) /\ Below w.heap.size w w' := by
 go_enter Tryz.func101, Tryz.ntmps101
 go_wp2
 go_ret
 exact ⟨rfl, (Below.refl _ _).alloc (Nat.le_refl _) _⟩
set_option maxHeartbeats 400000 in
theorem Width_tier (s le la wi ke qu : Int) (a : Option Addr) (n cap : Nat) (F W K : Nat -> Int) (i : Nat) (hi : i < n) (hn : n <= 4) (w : World) (h : TS w a n F W K) :
  Calls Tryz.prog 101 #[.agg #[int i64 s, int i64 le, int i64 la, int i64 wi, int i64 ke, int i64 qu, .slice a n cap], int i64 i] w fun e w' => e = .returned (int i64 (W i)) /\ Below w.heap.size w w' := by
 obtain ⟨b, off, rfl, hbz, hc⟩ := h (by omega)
 obtain ⟨h1, h2, h3⟩ := hc i hi
 have hne : ((i : Int) == -1) = false := beq_eq_false_iff_ne.2 (by omega)
 have hlt : (i : Int) < n := by omega
 go_enter Tryz.func101, Tryz.ntmps101
 go_wp2
 go_ret
 exact ⟨rfl, (Below.refl _ _).alloc (Nat.le_refl _) _⟩
theorem width_any (s le la wi ke qu : Int) (a : Option Addr) (n cap : Nat) (F W K : Nat -> Int) (t : Int) (ht0 : -1 <= t) (ht : t < n) (hn : n <= 4) (w : World) (h : TS w a n F W K) :
  Calls Tryz.prog 206 #[.agg #[int i64 s, int i64 le, int i64 la, int i64 wi, int i64 ke, int i64 qu, .slice a n cap], int i64 t] w fun e w' => e = .returned (int i64 (zbr wi W t)) /\ Below w.heap.size w w' := by
 by_cases e : t = -1
 ·subst e; simp only [zbr, if_pos]; exact width_raw s le la wi ke qu a n cap w
 ·obtain ⟨i, rfl⟩ := Int.eq_ofNat_of_zero_le (show 0 <= t by omega)
  simp only [zbr, if_neg e, Int.toNat_natCast]; exact width_tier s le la wi ke qu a n cap F W K i (by omega) hn w h
theorem Width_any (s le la wi ke qu : Int) (a : Option Addr) (n cap : Nat) (F W K : Nat -> Int) (t : Int) (ht0 : -1 <= t) (ht : t < n) (hn : n <= 4) (w : World) (h : TS w a n F W K) :
  Calls Tryz.prog 101 #[.agg #[int i64 s, int i64 le, int i64 la, int i64 wi, int i64 ke, int i64 qu, .slice a n cap], int i64 t] w fun e w' => e = .returned (int i64 (zbr wi W t)) /\ Below w.heap.size w w' := by
 by_cases e : t = -1
 ·subst e; simp only [zbr, if_pos]; exact Width_raw s le la wi ke qu a n cap w
 ·obtain ⟨i, rfl⟩ := Int.eq_ofNat_of_zero_le (show 0 <= t by omega)
  simp only [zbr, if_neg e, Int.toNat_natCast]; exact Width_tier s le la wi ke qu a n cap F W K i (by omega) hn w h
set_option maxHeartbeats 400000 in
theorem comesToRaw_any (a : Option Addr) (n cap : Nat) (F W K : Nat -> Int) (t0 : Nat) (hi : t0 < n) (hn : n <= 4) (hF : ∀ i, i < n -> -1 <= F i /\ F i < n) (w : World) (h : TS w a n F W K) :
  Calls Tryz.prog 207 #[.slice a n cap, int i64 t0] w fun e w' => e = .returned (.bool (down F n t0)) /\ w' = w := by
 obtain ⟨b, off, rfl, hbz, hc⟩ := h (by omega)
 go_enter Tryz.func207, Tryz.ntmps207
 go_wp2
 go_loop [1, 7] (fun x y => ∃ (t k : Nat), t < n /\ k <= n /\ x = int i64 t /\ y = int i64 k /\ down F n t0 = down F (n - k) t) (fun _ y => n - (intOf y).toNat)
 case atStart => exact ⟨t0, 0, hi, Nat.zero_le _, rfl, rfl, rfl⟩
 case round =>
  obtain ⟨t, k, ht, hk, rfl, rfl, he⟩ := hrel
  have HE : Hid (down F n t0 = down F (n - k) t) := he
  clear he
  obtain ⟨h1, _, _⟩ := hc t ht
  have hb := hF t ht
  have htn : (t : Int) < n := by omega
  by_cases hlt : k < n
  ·have hs : down F (n - k) t = (F t == -1 || down F (n - (k + 1)) (F t)) := by
    rw [show n - k = (n - (k + 1)) + 1 by omega, down]; simp
   have HS := hs; clear hs
   have HS : Hid (down F n t0 = (F t == -1 || down F (n - (k + 1)) (F t))) := by rw [HE.out]; exact HS
   by_cases e : F t = -1
   ·have HT : Hid (down F n t0 = true) := by rw [HS.out, e]; simp [Hid]
    clear HS HE
    have e' : (F t == -1) = true := by simp [e]
    clear e
    go_wp2
    go_ret
    exact ⟨zaq HT.out.symm, rfl⟩
   ·have e' : (F t == -1) = false := by simp [e]
    obtain ⟨m, hm⟩ := Int.eq_ofNat_of_zero_le (show 0 <= F t by omega)
    have HM : Hid (F t = m) := hm
    clear hm e
    go_wp2
    go_round
    case rel => exact ⟨m, k + 1, by have := HM.out; omega, by omega, by rw [HM.out], by go_num, by rw [HS.out, e', HM.out]; simp⟩
    case measure => simp [intOf]; omega
  ·go_wp2
   go_ret
   exact ⟨zaq (by rw [HE.out, show n - k = 0 by omega]; rfl), rfl⟩
set_option maxHeartbeats 400000 in
theorem comes_any (s le la wi ke qu : Int) (a : Option Addr) (n cap : Nat) (F W K : Nat -> Int) (t0 : Nat) (hi : t0 < n) (hn : n <= 4) (w : World) (h : TS w a n F W K) :
  Calls Tryz.prog 100 #[.agg #[int i64 s, int i64 le, int i64 la, int i64 wi, int i64 ke, int i64 qu, .slice a n cap], int i64 t0] w fun e w' => e = .returned (.bool (zbj n F (n + 1) t0)) /\ Below w.heap.size w w' := by
 obtain ⟨b, off, rfl, hbz, hc⟩ := h (by omega)
 go_enter Tryz.func100, Tryz.ntmps100
 go_wp2
 go_loop [1, 5] (fun x y => ∃ (t : Int) (k : Nat), k <= n + 1 /\ x = int i64 t /\ y = int i64 k /\ zbj n F (n + 1) t0 = zbj n F (n + 1 - k) t) (fun _ y => n + 1 - (intOf y).toNat)
 case atStart => exact ⟨t0, 0, Nat.zero_le _, rfl, rfl, rfl⟩
 case round =>
  obtain ⟨t, k, hk, rfl, rfl, he⟩ := hrel
  have HE : Hid (zbj n F (n + 1) t0 = zbj n F (n + 1 - k) t) := he
  clear he
  by_cases hlt : k <= n
  ·have hs : zbj n F (n + 1 - k) t = (t == -1 || (!(decide (t < -1) || decide ((n : Int) <= t)) && zbj n F (n + 1 - (k + 1)) (F t.toNat))) := by
    rw [show n + 1 - k = (n + 1 - (k + 1)) + 1 by omega, zbj]
   have HS : Hid (zbj n F (n + 1) t0 = (t == -1 || (!(decide (t < -1) || decide ((n : Int) <= t)) && zbj n F (n + 1 - (k + 1)) (F t.toNat)))) := by rw [HE.out]; exact hs
   clear hs HE
   by_cases e : t = -1
   ·subst e
    have HT : Hid (zbj n F (n + 1) t0 = true) := by rw [HS.out]; simp [Hid]
    clear HS
    go_wp2
    go_ret
    exact ⟨zaq HT.out.symm, (Below.refl _ _).alloc (Nat.le_refl _) _⟩
   ·have e' : (t == -1) = false := by simp [e]
    by_cases hr : t < -1
    ·have HT : Hid (zbj n F (n + 1) t0 = false) := by rw [HS.out, e']; simp [Hid, hr]
     clear HS e
     go_wp2
     go_ret
     exact ⟨zaq HT.out.symm, (Below.refl _ _).alloc (Nat.le_refl _) _⟩
    ·by_cases hr2 : (n : Int) <= t
     ·have HT : Hid (zbj n F (n + 1) t0 = false) := by rw [HS.out, e']; simp [Hid, hr2]
      clear HS e
      go_wp2
      go_ret
      exact ⟨zaq HT.out.symm, (Below.refl _ _).alloc (Nat.le_refl _) _⟩
     ·obtain ⟨m, rfl⟩ := Int.eq_ofNat_of_zero_le (show 0 <= t by omega)
      have htn : (m : Int) < n := by omega
      obtain ⟨h1, _, _⟩ := hc m (by omega)
      have HT : Hid (zbj n F (n + 1) t0 = zbj n F (n + 1 - (k + 1)) (F m)) := by rw [HS.out, e']; simp [Hid, hr, hr2]
      clear HS e
      go_wp2
      go_round
      case rel => exact ⟨F m, k + 1, by omega, rfl, by go_num, HT.out⟩
      case measure => simp [intOf]; omega
  ·go_wp2
   go_ret
   exact ⟨zaq (by rw [HE.out, show n + 1 - k = 0 by omega]; rfl), (Below.refl _ _).alloc (Nat.le_refl _) _⟩
set_option maxHeartbeats 400000 in
theorem bounds_any (a : Option Addr) (n cap : Nat) (F W K : Nat -> Int) (hn : n <= 4) (w : World) (h : TS w a n F W K) :
  Calls Tryz.prog 171 #[.slice a n cap] w fun e w' => e = .returned (.bool (allB n (tierB n F W K))) /\ Below w.heap.size w w' := by
 go_enter Tryz.func171, Tryz.ntmps171
 go_wp2
 go_loopw [2, 4, 7] (fun _ _ y wr => ∃ (k : Nat), k <= n /\ y = int i64 k /\ allB k (tierB n F W K) = true /\ Below w.heap.size w wr) (fun _ _ y _ => n - (intOf y).toNat)
 case atStart => exact ⟨0, Nat.zero_le _, rfl, allB_zero _, Below.refl _ _⟩
 case round =>
  obtain ⟨k, hk, rfl, ha, hb⟩ := hrel
  have HA : Hid (allB k (tierB n F W K) = true) := ha
  clear ha
  by_cases hlt : k < n
  ·have h' := h.below hb
   obtain ⟨b, off, rfl, hbz, hc⟩ := h' (by omega)
   obtain ⟨h1, h2, h3⟩ := hc k hlt
   have hkn : (k : Int) < n := by omega
   clear hc h h'
   cases e1 : inB (F k) (-1) ((n : Int) - 1)
   ·have HF : Hid (allB n (tierB n F W K) = false) := zcs _ _ k hlt (by simp [tierB, e1])
    go_wp2_with (go_at_call 77; refine (zcp _ _ _ _).mono ?_; rintro e w' ⟨rfl, rfl⟩)
    go_ret
    exact ⟨zaq HF.out.symm, hb.alloc hb.size _⟩
   ·cases e2 : inB (W k) 1 1000
    ·have HF : Hid (allB n (tierB n F W K) = false) := zcs _ _ k hlt (by simp [tierB, e2])
     go_wp2_with (go_at_call 77; refine (zcp _ _ _ _).mono ?_; rintro e w' ⟨rfl, rfl⟩)
     go_ret
     exact ⟨zaq HF.out.symm, hb.alloc hb.size _⟩
    ·cases e3 : inB (K k) 0 1000
     ·have HF : Hid (allB n (tierB n F W K) = false) := zcs _ _ k hlt (by simp [tierB, e3])
      go_wp2_with (go_at_call 77; refine (zcp _ _ _ _).mono ?_; rintro e w' ⟨rfl, rfl⟩)
      go_ret
      exact ⟨zaq HF.out.symm, hb.alloc hb.size _⟩
     ·have HF : Hid (allB (k + 1) (tierB n F W K) = true) := by
       show _ = _
       rw [allB_succ, HA.out]; simp [tierB, e1, e2, e3]
      go_wp2_with (go_at_call 77; refine (zcp _ _ _ _).mono ?_; rintro e w' ⟨rfl, rfl⟩)
      go_roundw
      case rel => exact ⟨k + 1, by omega, by go_num, HF.out, hb.alloc hb.size _⟩
      case measure => simp [intOf]; omega
  ·have e : k = n := by omega
   subst e
   go_wp2
   go_ret
   exact ⟨zaq HA.out.symm, hb⟩
end Go.Proofs.YtpbimdkclnekeaaGreat

namespace Go.Proofs.YtpbimdkclnekeaaGreat
open Value (int)
open IntKind (i64)
structure Cf where
 s : Int
 le : Int
 la : Int
 wi : Int
 ke : Int
 qu : Int
 n : Nat
 F : Nat -> Int
 W : Nat -> Int
 K : Nat -> Int
structure Nm where
 ser : Int
 tm : Int
 val : Int
structure Sg where
 t : Int
 ser : Int
 win : Int
deriving DecidableEq
structure Cl where
 cnt : Int
 sum : Int
 mn : Int
 mx : Int
structure Tk where
 kind : Int
 s : Sg
 since : Int
 tries : Int
 rest : Int
 ep : Int
 num : Int
 slot : Int
 till : Int
structure RM where
 c : Cf
 now : Int
 nums : List Nm
 pub : List Sg
 gone : List Sg
 tasks : List Tk
 epoch : Int
 picks : Int
def nmV (x : Nm) : List Value := [int i64 x.ser, int i64 x.tm, .int .i32 x.val]
def sgV (x : Sg) : List Value := [int i64 x.t, int i64 x.ser, int i64 x.win]
def tkV (x : Tk) : List Value := [int i64 x.kind, int i64 x.s.t, int i64 x.s.ser, int i64 x.s.win, int i64 x.since, int i64 x.tries, int i64 x.rest, int i64 x.ep, int i64 x.num, int i64 x.slot, int i64 x.till]
section
variable {α : Type}
theorem zek {f : α -> List Value} {k : Nat} (hf : ∀ a, (f a).length = k) : ∀ (l : List α) (i : Nat) (a : α) (j : Nat), l[i]? = some a -> j < k -> (l.flatMap f)[i * k + j]? = (f a)[j]?
 | [], i, a, j, h, _ => by simp at h
 | b :: l, 0, a, j, h, hj => by
  simp at h; subst h
  rw [List.flatMap_cons, List.getElem?_append_left (by rw [hf]; omega)]; simp
 | b :: l, i + 1, a, j, h, hj => by
  have := zek hf l i a j (by simpa using h) hj
  rw [List.flatMap_cons, List.getElem?_append_right (by rw [hf, Nat.add_mul]; omega), hf, <- this]
  congr 1; rw [Nat.add_mul]; omega
theorem flat_one {f : α -> List Value} (hf : ∀ a, ∀ v ∈ f a, v.oneCell' = true) (l : List α) : ∀ v ∈ l.flatMap f, v.oneCell' = true := fun v hv => by
 obtain ⟨a, _, ha⟩ := List.mem_flatMap.1 hv
 exact hf a v ha
theorem flat_snoc (f : α -> List Value) (l : List α) (a : α) : (l ++ [a]).flatMap f = l.flatMap f ++ f a := by simp
end
theorem nmV_len (x : Nm) : (nmV x).length = 3 := rfl
theorem sgV_len (x : Sg) : (sgV x).length = 3 := rfl
theorem tkV_len (x : Tk) : (tkV x).length = 11 := rfl
theorem nmV_one (x : Nm) : ∀ v ∈ nmV x, v.oneCell' = true := fun v h => by
 simp only [nmV, List.mem_cons, List.not_mem_nil, or_false] at h
 rcases h with rfl | rfl | rfl <;> rfl
theorem sgV_one (x : Sg) : ∀ v ∈ sgV x, v.oneCell' = true := fun v h => by
 simp only [sgV, List.mem_cons, List.not_mem_nil, or_false] at h
 rcases h with rfl | rfl | rfl <;> rfl
theorem tkV_one (x : Tk) : ∀ v ∈ tkV x, v.oneCell' = true := fun v h => by
 simp only [tkV, List.mem_cons, List.not_mem_nil, or_false] at h
 rcases h with rfl | rfl | rfl | rfl | rfl | rfl | rfl | rfl | rfl | rfl | rfl <;> rfl
structure Cf.ok (c : Cf) : Prop where
 n1 : 1 <= c.n
 n4 : c.n <= 4
 wi1 : 1 <= c.wi
 wi2 : c.wi <= 1000
 W : ∀ i, i < c.n -> 1 <= c.W i /\ c.W i <= 1000
 F : ∀ i, i < c.n -> -1 <= c.F i /\ c.F i < c.n
 K : ∀ i, i < c.n -> 0 <= c.K i /\ c.K i <= 1000
 ke : 0 <= c.ke /\ c.ke <= 1000
 la : 0 <= c.la /\ c.la <= 100
 qu : 1 <= c.qu /\ c.qu <= 400
 sl : 1 <= c.s /\ c.s <= 4
 le : 1 <= c.le /\ c.le <= 100
def Cf.width (c : Cf) (t : Int) : Int := zbr c.wi c.W t
theorem Cf.ok.width {c : Cf} (h : c.ok) {t : Int} (h1 : -1 <= t) (h2 : t < c.n) : 1 <= c.width t /\ c.width t <= 1000 := by
 unfold Cf.width zbr
 split
 ·exact ⟨h.wi1, h.wi2⟩
 ·exact h.W _ (by omega)
def zar (c : Cf) (t : Int) (x : Nm) : Sg := ⟨t, x.ser, x.tm / c.width t⟩
def addSg (l : List Sg) (s : Sg) : List Sg := if s ∈ l then l else l ++ [s]
def zcn (c : Cf) (t : Int) (nums : List Nm) (l : List Sg) : List Sg := nums.foldl (fun l x => addSg l (zar c t x)) l
def zfk (c : Cf) (nums : List Nm) (k : Nat) : List Sg := (List.range k).foldl (fun l (j : Nat) => zcn c ((j : Int) - 1) nums l) []
def zax (c : Cf) (nums : List Nm) : List Sg := zfk c nums (c.n + 1)
theorem segsTo_succ (c : Cf) (nums : List Nm) (k : Nat) : zfk c nums (k + 1) = zcn c ((k : Int) - 1) nums (zfk c nums k) := by
 simp [zfk, List.range_succ]
theorem segsTier_take (c : Cf) (t : Int) (nums : List Nm) (l : List Sg) (i : Nat) (x : Nm) (h : nums[i]? = some x) : zcn c t (nums.take (i + 1)) l = addSg (zcn c t (nums.take i) l) (zar c t x) := by
 obtain ⟨hl, hx⟩ := List.getElem?_eq_some_iff.1 h
 rw [List.take_succ_eq_append_getElem hl, hx]; simp [zcn]
theorem addSg_len (l : List Sg) (s : Sg) : (addSg l s).length <= l.length + 1 := by unfold addSg; split <;> simp
theorem segsTier_len (c : Cf) (t : Int) : ∀ (nums : List Nm) (l : List Sg), (zcn c t nums l).length <= l.length + nums.length
 | [], l => by simp [zcn]
 | x :: r, l => by
  have := segsTier_len c t r (addSg l (zar c t x)); have h2 := addSg_len l (zar c t x)
  simp only [zcn, List.foldl_cons, List.length_cons] at *; omega
theorem segsTo_len (c : Cf) (nums : List Nm) : ∀ k, (zfk c nums k).length <= k * nums.length
 | 0 => by simp [zfk]
 | k + 1 => by
  have := segsTo_len c nums k; have h2 := segsTier_len c ((k : Int) - 1) nums (zfk c nums k)
  rw [segsTo_succ, Nat.add_mul]; omega
theorem mem_addSg {l : List Sg} {s x : Sg} : x ∈ addSg l s ↔ x ∈ l \/ x = s := by
 unfold addSg; split
 ·rename_i h; constructor
  ·exact .inl
  ·rintro (h1 | rfl) <;> assumption
 ·simp
theorem mem_segsTier (c : Cf) (t : Int) (s : Sg) : ∀ (nums : List Nm) (l : List Sg), s ∈ zcn c t nums l ↔ s ∈ l \/ ∃ x ∈ nums, s = zar c t x
 | [], l => by simp [zcn]
 | x :: r, l => by
  have := mem_segsTier c t s r (addSg l (zar c t x))
  simp only [zcn, List.foldl_cons] at this ⊢
  rw [this, mem_addSg]; simp only [List.mem_cons, exists_eq_or_imp]
  constructor
  ·rintro ((h | h) | h)
   ·exact .inl h
   ·exact .inr (.inl h)
   ·exact .inr (.inr h)
  ·rintro (h | h | h)
   ·exact .inl (.inl h)
   ·exact .inl (.inr h)
   ·exact .inr h
theorem mem_segsTo (c : Cf) (nums : List Nm) (s : Sg) : ∀ k, s ∈ zfk c nums k ↔ ∃ j, j < k /\ ∃ x ∈ nums, s = zar c ((j : Int) - 1) x
 | 0 => by simp [zfk]
 | k + 1 => by
  rw [segsTo_succ, mem_segsTier, mem_segsTo c nums s k]
  constructor
  ·rintro (⟨j, hj, h⟩ | h)
   ·exact ⟨j, by omega, h⟩
   ·exact ⟨k, by omega, h⟩
  ·rintro ⟨j, hj, h⟩
   by_cases e : j = k
   ·subst e; exact .inr h
   ·exact .inl ⟨j, by omega, h⟩
theorem mem_segsOf {c : Cf} {nums : List Nm} {s : Sg} : s ∈ zax c nums ↔ -1 <= s.t /\ s.t < c.n /\ ∃ x ∈ nums, s = zar c s.t x := by
 unfold zax; rw [mem_segsTo]
 constructor
 ·rintro ⟨j, hj, x, hx, rfl⟩
  refine ⟨?_, ?_, x, hx, rfl⟩ <;> simp only [zar] <;> omega
 ·rintro ⟨h1, h2, x, hx, h⟩
  refine ⟨(s.t + 1).toNat, by omega, x, hx, ?_⟩
  have : (((s.t + 1).toNat : Nat) : Int) - 1 = s.t := by omega
  rw [this]; exact h
theorem addSg_nodup {l : List Sg} {s : Sg} (h : l.Nodup) : (addSg l s).Nodup := by
 unfold addSg; split
 ·exact h
 ·rename_i hn; rw [List.nodup_append]
  exact ⟨h, by simp, fun a ha b hb => by simp at hb; subst hb; intro e; subst e; exact hn ha⟩
theorem segsTier_nodup (c : Cf) (t : Int) : ∀ (nums : List Nm) (l : List Sg), l.Nodup -> (zcn c t nums l).Nodup
 | [], l, h => by simpa [zcn] using h
 | x :: r, l, h => by
  have := segsTier_nodup c t r (addSg l (zar c t x)) (addSg_nodup h)
  simpa only [zcn, List.foldl_cons] using this
theorem segsTo_nodup (c : Cf) (nums : List Nm) : ∀ k, (zfk c nums k).Nodup
 | 0 => by simp [zfk]
 | k + 1 => by rw [segsTo_succ]; exact segsTier_nodup c _ nums _ (segsTo_nodup c nums k)
theorem segsOf_nodup (c : Cf) (nums : List Nm) : (zax c nums).Nodup := segsTo_nodup c nums _
def addCl (a : Cl) (v : Int) : Cl := ⟨a.cnt + 1, a.sum + v, if a.cnt = 0 \/ v < a.mn then v else a.mn, if a.cnt = 0 \/ a.mx < v then v else a.mx⟩
def zdv (c : Cf) (s : Sg) (a : Cl) (x : Nm) : Cl := if zar c s.t x = s then addCl a x.val else a
def zbs (c : Cf) (s : Sg) (nums : List Nm) : Cl := nums.foldl (zdv c s) ⟨0, 0, 0, 0⟩
theorem cellOf_take (c : Cf) (s : Sg) (nums : List Nm) (i : Nat) (x : Nm) (h : nums[i]? = some x) : zbs c s (nums.take (i + 1)) = zdv c s (zbs c s (nums.take i)) x := by
 obtain ⟨hl, hx⟩ := List.getElem?_eq_some_iff.1 h
 rw [List.take_succ_eq_append_getElem hl, hx]; simp [zbs]
def useOf (c : Cf) (nums : List Nm) (rc : List Sg) (s : Sg) : Int := if s ∈ rc then 0 else if s.t = -1 then (zbs c s nums).cnt else 2
def usedOf (c : Cf) (nums : List Nm) (rc l : List Sg) : Int := l.foldl (fun n s => n + useOf c nums rc s) 0
def RM.used (m : RM) : Int := usedOf m.c m.nums m.gone (zax m.c m.nums)
theorem usedOf_take (c : Cf) (nums : List Nm) (rc l : List Sg) (i : Nat) (s : Sg) (h : l[i]? = some s) : usedOf c nums rc (l.take (i + 1)) = usedOf c nums rc (l.take i) + useOf c nums rc s := by
 obtain ⟨hl, hx⟩ := List.getElem?_eq_some_iff.1 h
 rw [List.take_succ_eq_append_getElem hl, hx]; simp [usedOf]
def Nm.ok (x : Nm) : Prop := -2147483648 <= x.val /\ x.val <= 2147483647 /\ 0 <= x.tm /\ x.tm <= 100000 /\ 0 <= x.ser /\ x.ser < 4
theorem cellOf_bounds (c : Cf) (s : Sg) : ∀ (nums : List Nm) (a : Cl) (k : Nat), (∀ x ∈ nums, x.ok) -> (0 <= a.cnt /\ a.cnt <= k /\ -(2147483648 * (k : Int)) <= a.sum /\ a.sum <= 2147483648 * (k : Int)) ->
  0 <= (nums.foldl (zdv c s) a).cnt /\ (nums.foldl (zdv c s) a).cnt <= k + nums.length /\ -(2147483648 * ((k : Int) + nums.length)) <= (nums.foldl (zdv c s) a).sum /\ (nums.foldl (zdv c s) a).sum <= 2147483648 * ((k : Int) + nums.length)
 | [], a, k, _, h => by simp; omega
 | x :: r, a, k, hx, h => by
  have h0 := hx x (by simp)
  unfold Nm.ok at h0
  have := cellOf_bounds c s r (zdv c s a x) (k + 1) (fun y hy => hx y (by simp [hy])) (by
   unfold zdv; split
   ·simp only [addCl]; omega
   ·omega)
  rw [List.foldl_cons, List.length_cons]
  omega
theorem cellOf_bound {c : Cf} {s : Sg} {nums : List Nm} (h : ∀ x ∈ nums, x.ok) : 0 <= (zbs c s nums).cnt /\ (zbs c s nums).cnt <= nums.length /\ -(2147483648 * (nums.length : Int)) <= (zbs c s nums).sum /\ (zbs c s nums).sum <= 2147483648 * (nums.length : Int) := by
 have := cellOf_bounds c s nums ⟨0, 0, 0, 0⟩ 0 h (by simp)
 simpa [zbs] using this
theorem usedOf_bounds {c : Cf} {nums : List Nm} {rc : List Sg} (h : ∀ x ∈ nums, x.ok) : ∀ (l : List Sg) (u : Int), 0 <= u -> 0 <= l.foldl (fun n s => n + useOf c nums rc s) u /\ l.foldl (fun n s => n + useOf c nums rc s) u <= u + l.length * (nums.length + 2)
 | [], u, hu => by simp; exact hu
 | s :: r, u, hu => by
  have hc := cellOf_bound (c := c) (s := s) h
  have hb : 0 <= useOf c nums rc s /\ useOf c nums rc s <= nums.length + 2 := by
   unfold useOf
   split
   ·omega
   ·split <;> omega
  have := usedOf_bounds (c := c) (rc := rc) h r (u + useOf c nums rc s) (by omega)
  have e : ((s :: r).length : Int) * (nums.length + 2) = r.length * (nums.length + 2) + (nums.length + 2) := by
   rw [List.length_cons]; push_cast; rw [Int.add_mul]; omega
  rw [List.foldl_cons, e]; omega
theorem usedOf_bound {c : Cf} {nums : List Nm} {rc l : List Sg} (h : ∀ x ∈ nums, x.ok) : 0 <= usedOf c nums rc l /\ usedOf c nums rc l <= l.length * (nums.length + 2) := by
 have := usedOf_bounds (c := c) (rc := rc) h l 0 (by omega)
 unfold usedOf; omega
end Go.Proofs.YtpbimdkclnekeaaGreat
