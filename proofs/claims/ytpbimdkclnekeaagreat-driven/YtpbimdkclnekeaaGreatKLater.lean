import Derived.WalkKit
import Derived.Below
import Derived.Deep.QuietTactic
import Derived.BigQuiet
import Derived.Shelf.SlLaysF0
import Derived.Shelf.SlGeneric
import Derived.Test.YtpbimdkclnekeaaGreatProg
import Derived.Maps.AppendAt
import Derived.Deep.AppendLies
import Derived.Laws.CopyOwn
import Derived.Laws.CopyRow
import Derived.Laws.IdiomCopy
import Derived.Deep.WholeRow
import Derived.Tactics
import Derived.Test.YtpbimdkclnekeaaGreatRows
import Derived.Test.YtpbimdkclnekeaaGreatKConf0
import Derived.WalkSpells
import Derived.WalkLawsBesides

namespace Go.Proofs.YtpbimdkclnekeaaGreat
open Go.RowKit
def zbg (B : Nat) (W : World) : Type := { u : World // Below B W u }
theorem zbg.some (B : Nat) (W : World) : Nonempty (zbg B W) := ⟨⟨W, Below.refl _ _⟩⟩
theorem zbg.cell {B : Nat} {W : World} (u : zbg B W) (b o : Nat) (h : b < B) : u.1.cell? ⟨b, o, none⟩ = W.cell? ⟨b, o, none⟩ := u.2.cell (p := ⟨b, o, none⟩) h
theorem Calls.later {P : Program} {f : FuncId} {args : Array Value} {B : Nat} {W : World} (hB : B <= W.heap.size) {u : zbg B W} {v : Value}
  (h : Calls P f args u.1 fun e w' => e = .returned v /\ Below u.1.heap.size u.1 w') : Calls P f args u.1 fun e w'' => e = .returned v /\ ∃ x : zbg B W, w'' = x.1 :=
 h.mono fun _ w' ⟨he, hb⟩ => ⟨he, ⟨w', u.2.trans (hb.mono (Nat.le_trans hB u.2.size))⟩, rfl⟩
theorem Calls.later_same {P : Program} {f : FuncId} {args : Array Value} {B : Nat} {W : World} {u : zbg B W} {v : Value}
  (h : Calls P f args u.1 fun e w' => e = .returned v /\ w' = u.1) : Calls P f args u.1 fun e w'' => e = .returned v /\ ∃ x : zbg B W, w'' = x.1 :=
 h.mono fun _ _ ⟨he, hb⟩ => ⟨he, u, hb⟩
theorem zak {P : Program} {id : Nat} {Q : Exit -> Act -> World -> Prop} {a : Act} {w : World} {l : List Oper} (B : Nat) (hm : P.follows .mixedOrders = true) (hx : Region.lexB .any l.toArray = true)
  (h : wpQuiet P l.toArray (fun w' => ∃ u : zbg B w, w' = u.1) (fun a' => ∀ u : zbg B w, Q .normal a' u.1) l a) : (Code.region id l.toArray true).wp P Q a w :=
 wp_region_quiet (C := fun w' => ∃ u : zbg B w, w' = u.1) hm hx ⟨⟨w.drew, (Below.refl _ _).drew⟩, rfl⟩ (by
  have : (fun a' => ∀ w', (∃ u : zbg B w, w' = u.1) -> Q .normal a' w') = (fun a' => ∀ u : zbg B w, Q .normal a' u.1) := by
   funext a'; exact propext ⟨fun h u => h _ ⟨u, rfl⟩, fun h _ ⟨u, e⟩ => e ▸ h u⟩
  rw [this]; simpa using h)
end Go.Proofs.YtpbimdkclnekeaaGreat

namespace Go.Proofs
open Go.Shelf
def Tryz.sortTsk_ren : Go.Shelf.Ren := ⟨fun | 6 => 140 | 15 => 180 | 14 => 179 | 28 => 216 | 29 => 217 | 20 => 208 | 21 => 209 | 22 => 210 | 23 => 211 | 24 => 212 | 25 => 213 | 26 => 214 | 27 => 215 | 46 => 225 | 47 => 226 | 48 => 227 | 49 => 228 | 50 => 229 | 57 => 232 | n => n, fun | 22 => 171 | 24 => 162 | 25 => 167 | 3 => 3 | 39 => 249 | 0 => 0 | 53 => 283 | 55 => 285 | 4 => 4 | 46 => 277 | 45 => 276 | 50 => 121 | 5 => 5 | 9 => 9 | 66 => 293 | 70 => 297 | 76 => 300 | 77 => 301 | n => n, fun | n => n⟩
theorem Tryz.sortTsk : Go.Proofs.SlLaysF0.n6 Tryz.prog Tryz.sortTsk_ren := {
 mixed := by kernel_rfl
 f6 := ⟨Tryz.f140.name, by decide, Tryz.func140.trans (congrArg some (by kernel_rfl))⟩
 f14 := ⟨Tryz.f179.name, by decide, Tryz.func179.trans (congrArg some (by kernel_rfl))⟩
 f15 := Tryz.func180.trans (congrArg some (by kernel_rfl))
 f20 := ⟨Tryz.f208.name, by decide, Tryz.func208.trans (congrArg some (by kernel_rfl))⟩
 f21 := ⟨Tryz.f209.name, by decide, Tryz.func209.trans (congrArg some (by kernel_rfl))⟩
 f22 := ⟨Tryz.f210.name, by decide, Tryz.func210.trans (congrArg some (by kernel_rfl))⟩
 f23 := ⟨Tryz.f211.name, by decide, Tryz.func211.trans (congrArg some (by kernel_rfl))⟩
 f24 := ⟨Tryz.f212.name, by decide, Tryz.func212.trans (congrArg some (by kernel_rfl))⟩
 f25 := ⟨Tryz.f213.name, by decide, Tryz.func213.trans (congrArg some (by kernel_rfl))⟩
 f26 := ⟨Tryz.f214.name, by decide, Tryz.func214.trans (congrArg some (by kernel_rfl))⟩
 f27 := ⟨Tryz.f215.name, by decide, Tryz.func215.trans (congrArg some (by kernel_rfl))⟩
 f28 := Tryz.func216.trans (congrArg some (by kernel_rfl))
 f29 := Tryz.func217.trans (congrArg some (by kernel_rfl))
 f46 := ⟨Tryz.f225.name, by decide, Tryz.func225.trans (congrArg some (by kernel_rfl))⟩
 f47 := Tryz.func226.trans (congrArg some (by kernel_rfl))
 f48 := Tryz.func227.trans (congrArg some (by kernel_rfl))
 f49 := ⟨Tryz.f228.name, by decide, Tryz.func228.trans (congrArg some (by kernel_rfl))⟩
 f50 := ⟨Tryz.f229.name, by decide, Tryz.func229.trans (congrArg some (by kernel_rfl))⟩
 f57 := ⟨Tryz.f232.name, by decide, Tryz.func232.trans (congrArg some (by kernel_rfl))⟩
 t0 := Tryz.underlying0
 a0 := Tryz.isAgg0
 z0 := Tryz.sizeOf0
 v0 := Tryz.zeroValue0
 t3 := Tryz.underlying3
 a3 := Tryz.isAgg3
 z3 := Tryz.sizeOf3
 v3 := Tryz.zeroValue3
 t4 := Tryz.underlying4
 a4 := Tryz.isAgg4
 z4 := Tryz.sizeOf4
 v4 := Tryz.zeroValue4
 t5 := Tryz.underlying5
 a5 := Tryz.isAgg5
 z5 := Tryz.sizeOf5
 v5 := Tryz.zeroValue5
 t9 := Tryz.underlying9
 a9 := Tryz.isAgg9
 z9 := Tryz.sizeOf9
 v9 := Tryz.zeroValue9
 t22 := Tryz.underlying171
 a22 := Tryz.isAgg171
 z22 := Tryz.sizeOf171
 v22 := Tryz.zeroValue171
 t25 := Tryz.underlying167
 a25 := Tryz.isAgg167
 z25 := Tryz.sizeOf167
 v25 := Tryz.zeroValue167
 t39 := Tryz.underlying249
 a39 := Tryz.isAgg249
 z39 := Tryz.sizeOf249
 v39 := Tryz.zeroValue249
 t45 := Tryz.underlying276
 a45 := Tryz.isAgg276
 z45 := Tryz.sizeOf276
 v45 := Tryz.zeroValue276
 t46 := Tryz.underlying277
 a46 := Tryz.isAgg277
 z46 := Tryz.sizeOf277
 v46 := Tryz.zeroValue277
 t50 := Tryz.underlying121
 a50 := Tryz.isAgg121
 z50 := Tryz.sizeOf121
 v50 := Tryz.zeroValue121
 t53 := Tryz.underlying283
 a53 := Tryz.isAgg283
 z53 := Tryz.sizeOf283
 v53 := Tryz.zeroValue283
 t55 := Tryz.underlying285
 a55 := Tryz.isAgg285
 z55 := Tryz.sizeOf285
 v55 := Tryz.zeroValue285
 t66 := Tryz.underlying293
 a66 := Tryz.isAgg293
 z66 := Tryz.sizeOf293
 v66 := Tryz.zeroValue293
 t70 := Tryz.underlying297
 a70 := Tryz.isAgg297
 z70 := Tryz.sizeOf297
 v70 := Tryz.zeroValue297
 t76 := Tryz.underlying300
 a76 := Tryz.isAgg300
 z76 := Tryz.sizeOf300
 v76 := Tryz.zeroValue300
 t77 := Tryz.underlying301
 a77 := Tryz.isAgg301
 z77 := Tryz.sizeOf301
 v77 := Tryz.zeroValue301 }
end Go.Proofs

namespace Go.Proofs.YtpbimdkclnekeaaGreat
open Go.RowKit
theorem zac {p : Prop} (h : p) : Hid p := h
theorem ud {p : Prop} (h : Hid p) : p := h
structure zaj (f : Nat -> Prop) (w w' : World) : Prop where
 os : w'.os = w.os
 tape : w'.tape = w.tape
 output : w'.output = w.output
 size : w.heap.size <= w'.heap.size
 block : ∀ k, k < w.heap.size -> ¬ f k -> w'.heap[k]? = w.heap[k]?
theorem zaj.refl (f : Nat -> Prop) (w : World) : zaj f w w := ⟨rfl, rfl, rfl, Nat.le_refl _, fun _ _ _ => rfl⟩
theorem zaj.trans {f g : Nat -> Prop} {a b c : World} (h : zaj f a b) (k : zaj g b c) (hg : ∀ i, i < a.heap.size -> g i -> f i) : zaj f a c :=
 ⟨k.os.trans h.os, k.tape.trans h.tape, k.output.trans h.output, Nat.le_trans h.size k.size,
  fun i hi hf => (k.block i (Nat.lt_of_lt_of_le hi h.size) (fun hh => hf (hg i hi hh))).trans (h.block i hi hf)⟩
theorem zaj.mono {f g : Nat -> Prop} {w w' : World} (h : zaj f w w') (hfg : ∀ i, i < w.heap.size -> f i -> g i) : zaj g w w' :=
 ⟨h.os, h.tape, h.output, h.size, fun k hk hn => h.block k hk (fun hh => hn (hfg k hk hh))⟩
theorem zaj.drew {f : Nat -> Prop} {a w : World} (h : zaj f a w) : zaj f a w.drew := ⟨h.os, h.tape, h.output, h.size, h.block⟩
theorem zaj.of_below {f : Nat -> Prop} {w w' : World} (h : Below w.heap.size w w') : zaj f w w' := ⟨h.os, h.tape, h.output, h.size, fun k hk _ => h.block k hk⟩
theorem zaj.alloc {f : Nat -> Prop} {a w : World} (h : zaj f a w) (o : Obj) : zaj f a (w.alloc o) :=
 h.trans (g := f) (zaj.of_below ((Below.refl _ _).alloc (Nat.le_refl _) o)) (fun _ _ h => h)
theorem zaj.setCell {f : Nat -> Prop} {a w : World} (h : zaj f a w) {p : Addr} (hp : p.block < a.heap.size -> f p.block) (u : Value) : zaj f a (w.setCell p u) :=
 h.trans (g := fun k => k = p.block) ⟨rfl, rfl, rfl, by simp [World.setCell], fun k _ hn => Below.heap_setCell _ _ _ _ hn⟩ (fun i hi hg => by subst hg; exact hp hi)
theorem zaj.grown {f : Nat -> Prop} {a w w' : World} {row : Option Nat} (h : zaj f a w) (hg : w.grownBy w' row) (hr : ∀ k, row = some k -> k < a.heap.size -> f k) : zaj f a w' :=
 h.trans (g := fun k => row = some k) ⟨hg.os, hg.tape, hg.output, hg.size, fun k hk hn => hg.block k hk (fun e => hn e.symm)⟩ (fun i hi hh => hr i hh hi)
theorem zaj.below {f : Nat -> Prop} {w w' : World} {B : Nat} (h : zaj f w w') (hB : B <= w.heap.size) (hf : ∀ k, f k -> B <= k) : Below B w w' :=
 ⟨h.os, h.tape, h.output, h.size, fun k hk => h.block k (Nat.lt_of_lt_of_le hk hB) (fun hh => by have := hf k hh; omega)⟩
theorem zaj.heap {f : Nat -> Prop} {w w' : World} (h : zaj f w w') {k : Nat} {o : Obj} (hk : w.heap[k]? = some o) (hn : ¬ f k) : w'.heap[k]? = some o :=
 (h.block k (Array.getElem?_eq_some_iff.1 hk).1 hn).trans hk
theorem zaa {w : World} {k : Nat} {o : Obj} (hk : w.heap[k]? = some o) : k < w.heap.size := (Array.getElem?_eq_some_iff.1 hk).1
theorem zah {f : Nat -> Prop} {w w' : World} {base : Nat} {e : TypeId} {size : Nat} {v : Value} {n : Nat} {xs : List Value} (h : w.ownsRow base e size v n xs) (hk : zaj f w w') (hn : ∀ k, v.ownBlock = some k -> ¬ f k) : w'.ownsRow base e size v n xs := by
 refine ⟨h.1, ?_⟩
 rcases h.2 with h2 | ⟨g, cap, cur, rfl, hb, hg, r⟩
 ·exact .inl h2
 ·exact .inr ⟨g, cap, cur, rfl, hb, hk.heap hg (hn g rfl), r⟩
theorem zbv {w : World} {base : Nat} {e : TypeId} {size : Nat} {v : Value} {n : Nat} {xs : List Value} (h : w.ownsRow base e size v n xs) {k : Nat} (hk : v.ownBlock = some k) : ∃ cur, w.heap[k]? = some (.cells cur e (0, 0)) := by
 rcases h.2 with ⟨rfl, _⟩ | ⟨g, cap, cur, rfl, _, hg, _⟩
 ·cases hk
 ·simp [Value.ownBlock] at hk; subst hk; exact ⟨cur, hg⟩
section
variable {P : Program} (w : World)
theorem run_append_keep (t ty : TypeId) (base : Nat) (e : TypeId) (i : TypeInfo) (z : Value) (size bytes : Nat) (ht : P.underlying t = some (.slice e)) (hi : P.info? e = some i) (hz : i.zero = some z)
  (hsize : i.size = size) (hby : i.bytes = bytes) (hzs : z.cells.size = size) (hsz : 0 < size)
  (v : Value) (n : Nat) (xs : List Value) (hown : w.ownsRow base e size v n xs)
  (ad : Addr) (m c : Nat) (news : List Value) (hl : news.length = m * size) (hnews : ∀ j u, news[j]? = some u -> w.cell? (ad.add j) = some u) (h1 : ∀ u ∈ news, u.oneCell' = true)
  (hm : 0 < m) (h63 : n + m <= maxLen) (hbytes : (n + m) * bytes <= 140737488355328) (hbase : base <= w.heap.size) :
  ∃ g cap w', (Builtin.append_ #[t, t] ty #[v, .slice (some ad) m c]).run P w = .ok (.slice (some ⟨g, 0, none⟩) (n + m) cap) w' /\
   w'.ownsRow base e size (.slice (some ⟨g, 0, none⟩) (n + m) cap) (n + m) (xs ++ news) /\ w'.ownsRow base e size v n xs /\ w.grownBy w' v.ownBlock /\ (v.ownBlock = some g \/ g = w.heap.size) /\ g < w'.heap.size := by
 obtain ⟨v', w', hr, h2, h3, _, h5⟩ := run_append_own_at (P := P) w base t ty e i z size bytes ht hi hz hsize hby hzs hsz v n xs hown ad m c news hl hnews h1 h63 hbytes hbase
 obtain ⟨g, cap, rfl, _, hlt⟩ := h2.form (by omega)
 refine ⟨g, cap, w', hr, h2, ?_, h3, ?_, hlt⟩
 ·refine ⟨hown.1, ?_⟩
  rcases hown.2 with hn | ⟨g0, cap0, cur, rfl, hb, hg, hnc, hcm, hcs, htk⟩
  ·exact .inl hn
  ·right
   subst hsize
   subst hby
   by_cases hroom : n + m <= cap0
   ·have hfit : n * i.size + news.length <= cur.size := by rw [hl, hcs, <- Nat.add_mul]; exact Nat.mul_le_mul_right _ hroom
    have hr2 := run_append_room (P := P) w t ty e i ht hi g0 n cap0 cur hg ad m c news hl hnews h1 hroom hfit
    rw [hr] at hr2
    injection hr2 with _ hw
    subst hw
    refine ⟨g0, cap0, _, rfl, hb, setRow_heap w g0 cur _ e _ hg, hnc, hcm, ?_, ?_⟩
    ·simp only [List.size_toArray, List.length_append, List.length_take, List.length_drop, Array.length_toList]
     omega
    ·have hx : xs.length = n * i.size := hown.1
     simp only [htk]
     rw [List.append_assoc, <- hx]
     exact List.take_left
   ·have hsmall : n + m <= 9223372036854775807 := by simp only [maxLen] at h63; omega
    have holds : ∀ j u, xs[j]? = some u -> w.cell? ((⟨g0, 0, none⟩ : Addr).add j) = some u := hown.cells (g := g0) rfl
    have hr2 := run_append_grow (P := P) w t ty e i z ht hi hz ⟨g0, 0, none⟩ n cap0 xs hown.1 holds ad m c news hl hnews (by omega) (by omega) (growslice_fits (by omega) hbytes)
    rw [hr] at hr2
    injection hr2 with _ hw
    subst hw
    exact ⟨g0, cap0, cur, rfl, hb, (Below.heap_alloc w.drew _ g0 (zaa hg)).trans hg, hnc, hcm, hcs, htk⟩
 ·rcases h5 with h5 | h5
  ·exact .inl (h5.symm.trans rfl)
  ·simp [Value.ownBlock] at h5; exact .inr h5
theorem zdv {w : World} {ops : Array Oper} {rest : List Oper} {o : Oper} {a : Act} {Q : Exit -> Act -> World -> Prop} (hgd : o.guard = none) (s x : Operand) (t : TypeId)
  (ho : o.op = .call { callee := .builtin .append, args := #[s, x], argTypes := #[t, t] })
  (base : Nat) (e : TypeId) (z : Value) (size bytes : Nat) (ht : P.underlying t = some (.slice e)) (hinfo : (P.info? e).map (fun i => (i.zero, i.size, i.bytes)) = some (some z, size, bytes)) (hzs : z.cells.size = size) (hsz : 0 < size)
  (v : Value) (n : Nat) (xs : List Value) (hs : a.eval s = v) (hown : w.ownsRow base e size v n xs)
  (ad : Addr) (m c : Nat) (news : List Value) (hx : a.eval x = .slice (some ad) m c) (hl : news.length = m * size) (hnews : ∀ j u, news[j]? = some u -> w.cell? (ad.add j) = some u) (h1 : ∀ u ∈ news, u.oneCell' = true)
  (hm : 0 < m) (h63 : n + m <= maxLen) (hbytes : (n + m) * bytes <= 140737488355328) (hbase : base <= w.heap.size)
  (h : ∀ g cap w', w'.ownsRow base e size (.slice (some ⟨g, 0, none⟩) (n + m) cap) (n + m) (xs ++ news) -> w'.ownsRow base e size v n xs -> w.grownBy w' v.ownBlock -> (v.ownBlock = some g \/ g = w.heap.size) -> g < w'.heap.size -> wpList P ops Q rest (a.put o.dst (.slice (some ⟨g, 0, none⟩) (n + m) cap)) w') : wpList P ops Q (o :: rest) a w := by
 cases hq : P.info? e with
 | none => simp [hq] at hinfo
 | some i =>
  simp only [hq, Option.map_some, Option.some.injEq, Prod.mk.injEq] at hinfo
  obtain ⟨hz, hsize, hby⟩ := hinfo
  refine wpList_plain hgd fun K hK => ?_
  obtain ⟨g, cap, w', hr, h2, h3, h4, h5, h6⟩ := run_append_keep (P := P) w t o.type base e i z size bytes ht hq hz hsize hby hzs hsz v n xs hown ad m c news hl hnews h1 hm h63 hbytes hbase
  unfold Oper.wp
  simp [execOp, ho, resolve, invoke, builtin, hs, hx, hr, Result.andThen]
  exact hK _ _ (h g cap w' h2 h3 h4 h5 h6)
end
end Go.Proofs.YtpbimdkclnekeaaGreat

namespace Go.Proofs.YtpbimdkclnekeaaGreat
open Value (int)
open IntKind (i64)
open Go.RowKit
theorem run_copy_wide {P : Program} (w : World) (dT sT ty elem : TypeId) (sz : Nat) (g dLen dCap : Nat) (sp : Option Addr) (sLen sCap : Nat) (cur : Array Value) (t : TypeId) (cs : List Value)
  (hu : P.underlying dT = some (.slice elem)) (hs : (P.info? elem).map (·.size) = some sz) (hg : w.heap[g]? = some (.cells cur t (0, 0))) (hn : cs.length = Nat.min sLen dLen * sz)
  (hsrc : 0 < cs.length -> ∃ ad, sp = some ad /\ ∀ j v, cs[j]? = some v -> w.cell? (ad.add j) = some v) (hfit : cs.length <= cur.size) (h1 : ∀ v ∈ cs, v.oneCell' = true) :
  (Builtin.copy_ #[dT, sT] ty #[.slice (some ⟨g, 0, none⟩) dLen dCap, .slice sp sLen sCap]).run P w = .ok (goInt (Nat.min sLen dLen)) (w.setRow g (cs ++ cur.toList.drop cs.length).toArray) := by
 have hst := run_storeCells_at P g 0 t cs 0 cur w hg (by simpa using hfit) h1
 cases hq : P.info? elem with
 | none => simp [hq] at hs
 | some i =>
  have hi : i.size = sz := by simpa [hq] using hs
  by_cases h0 : cs.length = 0
  ·obtain rfl : cs = [] := List.eq_nil_of_length_eq_zero h0
   have hz : Nat.min sLen dLen * sz = 0 := by simpa using hn.symm
   have hl : ∀ (x : Addr), (loadCells x 0).run P w = .ok #[] w := fun x => by simpa using run_loadCells_list (P := P) w x [] (by simp)
   have hself := setRow_self w g cur t (0, 0) hg
   cases sp <;> simp [Builtin.copy_, run_underlying hu, Builtin.lenOf, Builtin.firstCells, sizeOf, typeInfo, hq, hi, hz, storeCells, hl, hself]
  ·obtain ⟨ad, rfl, hc⟩ := hsrc (by omega)
   have hl := run_loadCells_list (P := P) w ad cs hc
   simp [Builtin.copy_, run_underlying hu, Builtin.lenOf, Builtin.firstCells, sizeOf, typeInfo, hq, hi, <- hn, hl, hst]
def cell3 (F W K : Nat -> Int) (j : Nat) : Value := if j % 3 = 0 then int i64 (F (j / 3)) else if j % 3 = 1 then int i64 (W (j / 3)) else int i64 (K (j / 3))
theorem cell3_0 (F W K : Nat -> Int) (i : Nat) : cell3 F W K (i * 3) = int i64 (F i) := by
 unfold cell3; rw [if_pos (by omega), show i * 3 / 3 = i by omega]
theorem cell3_1 (F W K : Nat -> Int) (i : Nat) : cell3 F W K (i * 3 + 1) = int i64 (W i) := by
 unfold cell3; rw [if_neg (by omega), if_pos (by omega), show (i * 3 + 1) / 3 = i by omega]
theorem cell3_2 (F W K : Nat -> Int) (i : Nat) : cell3 F W K (i * 3 + 2) = int i64 (K i) := by
 unfold cell3; rw [if_neg (by omega), if_neg (by omega), show (i * 3 + 2) / 3 = i by omega]
def row3 (n : Nat) (F W K : Nat -> Int) : List Value := (List.range (n * 3)).map (cell3 F W K)
theorem zdd (n : Nat) (F W K : Nat -> Int) : (row3 n F W K).length = n * 3 := by simp [row3]
theorem row3_get (n : Nat) (F W K : Nat -> Int) (j : Nat) (h : j < n * 3) : (row3 n F W K)[j]? = some (cell3 F W K j) := by simp [row3, h]
theorem row3_one (n : Nat) (F W K : Nat -> Int) : ∀ v ∈ row3 n F W K, v.oneCell' = true := by
 intro v hv
 simp only [row3, List.mem_map] at hv
 obtain ⟨j, _, rfl⟩ := hv
 unfold cell3
 split
 ·rfl
 ·split <;> rfl
def TS (w : World) (a : Option Addr) (n : Nat) (F W K : Nat -> Int) : Prop :=
 0 < n -> ∃ b off, a = some ⟨b, off, none⟩ /\ b < w.heap.size /\ ∀ i, i < n -> w.cell? ⟨b, off + i * 3, none⟩ = some (int i64 (F i)) /\ w.cell? ⟨b, off + i * 3 + 1, none⟩ = some (int i64 (W i)) /\ w.cell? ⟨b, off + i * 3 + 2, none⟩ = some (int i64 (K i))
theorem TS.below {w w' : World} {a : Option Addr} {n : Nat} {F W K : Nat -> Int} (h : TS w a n F W K) (hb : Below w.heap.size w w') : TS w' a n F W K := fun h0 => by
 obtain ⟨b, off, rfl, hlt, hc⟩ := h h0
 have e : ∀ o, w'.cell? ⟨b, o, none⟩ = w.cell? ⟨b, o, none⟩ := fun o => hb.cell (p := ⟨b, o, none⟩) hlt
 exact ⟨b, off, rfl, Nat.lt_of_lt_of_le hlt hb.size, fun i hi => by simp only [e]; exact hc i hi⟩
theorem cell_at (w : World) (C : Array Value) (t : TypeId) (fr : Nat × Nat) (n j : Nat) (hn : n = w.heap.size) : (w.alloc (.cells C t fr)).cell? ⟨n, j, none⟩ = C[j]? := by
 subst hn
 exact World.cell?_alloc_mark w C t fr j
def CF (w : World) (p : Nat) (s le la wi ke qu : Int) (a : Option Addr) (n cap : Nat) : Prop :=
 p < w.heap.size /\ w.cell? ⟨p, 0, none⟩ = some (int i64 s) /\ w.cell? ⟨p, 1, none⟩ = some (int i64 le) /\ w.cell? ⟨p, 2, none⟩ = some (int i64 la) /\ w.cell? ⟨p, 3, none⟩ = some (int i64 wi) /\ w.cell? ⟨p, 4, none⟩ = some (int i64 ke) /\ w.cell? ⟨p, 5, none⟩ = some (int i64 qu) /\ w.cell? ⟨p, 6, none⟩ = some (.slice a n cap)
theorem CF.made (w : World) (t : TypeId) (fr : Nat × Nat) (s le la wi ke qu : Int) (a : Option Addr) (n cap : Nat) :
  CF (w.alloc (.cells #[int i64 s, int i64 le, int i64 la, int i64 wi, int i64 ke, int i64 qu, .slice a n cap] t fr)) w.heap.size s le la wi ke qu a n cap := by
 refine ⟨by simp, ?_, ?_, ?_, ?_, ?_, ?_, ?_⟩ <;> rw [cell_at _ _ _ _ _ _ rfl] <;> rfl
theorem CF.below {w w' : World} {p B : Nat} {s le la wi ke qu : Int} {a : Option Addr} {n cap : Nat} (h : CF w p s le la wi ke qu a n cap) (hb : Below B w w') (hB : p < B) : CF w' p s le la wi ke qu a n cap := by
 have e : ∀ o, w'.cell? ⟨p, o, none⟩ = w.cell? ⟨p, o, none⟩ := fun o => hb.cell (p := ⟨p, o, none⟩) hB
 obtain ⟨h0, h⟩ := h
 exact ⟨Nat.lt_of_lt_of_le h0 hb.size, by simp only [e]; exact h⟩
theorem zcs {a b : Bool} (h : a = b) : Ending.returned (.bool a) = .returned (.bool b) := by rw [h]
set_option maxHeartbeats 400000 in
theorem zcm (x lo hi : Int) (w : World) :
  Calls Tryz.prog 77 #[int i64 x, int i64 lo, int i64 hi] w fun e w' => e = .returned (.bool (inB x lo hi)) /\ w' = w := by
 by_cases h1 : lo <= x
 ·by_cases h2 : x <= hi
  all_goals
   go_enter Tryz.func77, Tryz.ntmps77
   go_wp2
   go_ret
   exact ⟨zcs (by simp [inB, *]), rfl⟩
 ·go_enter Tryz.func77, Tryz.ntmps77
  go_wp2
  go_ret
  exact ⟨zcs (by simp [inB]; omega), rfl⟩
set_option maxHeartbeats 400000 in
theorem width_raw (s le la wi ke qu : Int) (a : Option Addr) (n cap : Nat) (w : World) :
  Calls Tryz.prog 206 #[.agg #[int i64 s, int i64 le, int i64 la, int i64 wi, int i64 ke, int i64 qu, .slice a n cap], int i64 (-1)] w fun e w' => e = .returned (int i64 wi) /\ Below w.heap.size w w' := by
 go_enter Tryz.func206, Tryz.ntmps206
 go_wp2
 go_ret
 exact ⟨rfl, (Below.refl _ _).alloc (Nat.le_refl _) _⟩
set_option maxHeartbeats 400000 in
theorem width_tier (s le la wi ke qu : Int) (a : Option Addr) (n cap : Nat) (F W K : Nat -> Int) (i : Nat) (hi : i < n) (hn : n <= 4) (w : World) (h : TS w a n F W K) :
  Calls Tryz.prog 206 #[.agg #[int i64 s, int i64 le, int i64 la, int i64 wi, int i64 ke, int i64 qu, .slice a n cap], int i64 i] w fun e w' => e = .returned (int i64 (W i)) /\ Below w.heap.size w w' := by
 obtain ⟨b, off, rfl, hbz, hc⟩ := h (by omega)
 obtain ⟨h1, h2, h3⟩ := hc i hi
 have hne : ((i : Int) == -1) = false := beq_eq_false_iff_ne.2 (by omega)
 have hlt : (i : Int) < n := by omega
 go_enter Tryz.func206, Tryz.ntmps206
 go_wp2
 go_ret
 exact ⟨rfl, (Below.refl _ _).alloc (Nat.le_refl _) _⟩
theorem width_any (s le la wi ke qu : Int) (a : Option Addr) (n cap : Nat) (F W K : Nat -> Int) (t : Int) (ht0 : -1 <= t) (ht : t < n) (hn : n <= 4) (w : World) (h : TS w a n F W K) :
  Calls Tryz.prog 206 #[.agg #[int i64 s, int i64 le, int i64 la, int i64 wi, int i64 ke, int i64 qu, .slice a n cap], int i64 t] w fun e w' => e = .returned (int i64 (zbp wi W t)) /\ Below w.heap.size w w' := by
 by_cases e : t = -1
 ·subst e; simp only [zbp, if_pos]; exact width_raw s le la wi ke qu a n cap w
 ·obtain ⟨i, rfl⟩ := Int.eq_ofNat_of_zero_le (show 0 <= t by omega)
  simp only [zbp, if_neg e, Int.toNat_natCast]; exact width_tier s le la wi ke qu a n cap F W K i (by omega) hn w h
set_option maxHeartbeats 400000 in
theorem comesToRaw_any (a : Option Addr) (n cap : Nat) (F W K : Nat -> Int) (t0 : Nat) (hi : t0 < n) (hn : n <= 4) (hF : ∀ i, i < n -> -1 <= F i /\ F i < n) (w : World) (h : TS w a n F W K) :
  Calls Tryz.prog 207 #[.slice a n cap, int i64 t0] w fun e w' => e = .returned (.bool (down F n t0)) /\ w' = w := by
 obtain ⟨b, off, rfl, hbz, hc⟩ := h (by omega)
 go_enter Tryz.func207, Tryz.ntmps207
 go_wp2
 go_loop [1, 7] (fun x y => ∃ (t k : Nat), t < n /\ k <= n /\ x = int i64 t /\ y = int i64 k /\ down F n t0 = down F (n - k) t) (fun _ y => n - (intOf y).toNat)
 case atStart => exact ⟨t0, 0, hi, Nat.zero_le _, rfl, rfl, rfl⟩
 case round =>
  obtain ⟨t, k, ht, hk, rfl, rfl, he⟩ := hrel
  have HE : Hid (down F n t0 = down F (n - k) t) := he
  clear he
  obtain ⟨h1, _, _⟩ := hc t ht
  have hb := hF t ht
  have htn : (t : Int) < n := by omega
  by_cases hlt : k < n
  ·have hs : down F (n - k) t = (F t == -1 || down F (n - (k + 1)) (F t)) := by
    rw [show n - k = (n - (k + 1)) + 1 by omega, down]; simp
   have HS := hs; clear hs
   have HS : Hid (down F n t0 = (F t == -1 || down F (n - (k + 1)) (F t))) := by rw [HE.out]; exact HS
   by_cases e : F t = -1
   ·have HT : Hid (down F n t0 = true) := by rw [HS.out, e]; simp [Hid]
    clear HS HE
    have e' : (F t == -1) = true := by simp [e]
    clear e
    go_wp2
    go_ret
    exact ⟨zcs HT.out.symm, rfl⟩
   ·have e' : (F t == -1) = false := by simp [e]
    obtain ⟨m, hm⟩ := Int.eq_ofNat_of_zero_le (show 0 <= F t by omega)
    have HM : Hid (F t = m) := hm
    clear hm e
    go_wp2
    go_round
    case rel => exact ⟨m, k + 1, by have := HM.out; omega, by omega, by rw [HM.out], by go_num, by rw [HS.out, e', HM.out]; simp⟩
    case measure => simp [intOf]; omega
  ·go_wp2
   go_ret
   exact ⟨zcs (by rw [HE.out, show n - k = 0 by omega]; rfl), rfl⟩
set_option maxHeartbeats 400000 in
theorem bounds_any (a : Option Addr) (n cap : Nat) (F W K : Nat -> Int) (hn : n <= 4) (w : World) (h : TS w a n F W K) :
  Calls Tryz.prog 171 #[.slice a n cap] w fun e w' => e = .returned (.bool (allB n (tierB n F W K))) /\ Below w.heap.size w w' := by
 go_enter Tryz.func171, Tryz.ntmps171
 go_wp2
 go_loopw [2, 4, 7] (fun _ _ y wr => ∃ (k : Nat), k <= n /\ y = int i64 k /\ allB k (tierB n F W K) = true /\ Below w.heap.size w wr) (fun _ _ y _ => n - (intOf y).toNat)
 case atStart => exact ⟨0, Nat.zero_le _, rfl, allB_zero _, Below.refl _ _⟩
 case round =>
  obtain ⟨k, hk, rfl, ha, hb⟩ := hrel
  have HA : Hid (allB k (tierB n F W K) = true) := ha
  clear ha
  by_cases hlt : k < n
  ·have h' := h.below hb
   obtain ⟨b, off, rfl, hbz, hc⟩ := h' (by omega)
   obtain ⟨h1, h2, h3⟩ := hc k hlt
   have hkn : (k : Int) < n := by omega
   clear hc h h'
   cases e1 : inB (F k) (-1) ((n : Int) - 1)
   ·have HF : Hid (allB n (tierB n F W K) = false) := zfg _ _ k hlt (by simp [tierB, e1])
    go_wp2_with (go_at_call 77; refine (zcm _ _ _ _).mono ?_; rintro e w' ⟨rfl, rfl⟩)
    go_ret
    exact ⟨zcs HF.out.symm, hb.alloc hb.size _⟩
   ·cases e2 : inB (W k) 1 1000
    ·have HF : Hid (allB n (tierB n F W K) = false) := zfg _ _ k hlt (by simp [tierB, e2])
     go_wp2_with (go_at_call 77; refine (zcm _ _ _ _).mono ?_; rintro e w' ⟨rfl, rfl⟩)
     go_ret
     exact ⟨zcs HF.out.symm, hb.alloc hb.size _⟩
    ·cases e3 : inB (K k) 0 1000
     ·have HF : Hid (allB n (tierB n F W K) = false) := zfg _ _ k hlt (by simp [tierB, e3])
      go_wp2_with (go_at_call 77; refine (zcm _ _ _ _).mono ?_; rintro e w' ⟨rfl, rfl⟩)
      go_ret
      exact ⟨zcs HF.out.symm, hb.alloc hb.size _⟩
     ·have HF : Hid (allB (k + 1) (tierB n F W K) = true) := by
       show _ = _
       rw [allB_succ, HA.out]; simp [tierB, e1, e2, e3]
      go_wp2_with (go_at_call 77; refine (zcm _ _ _ _).mono ?_; rintro e w' ⟨rfl, rfl⟩)
      go_roundw
      case rel => exact ⟨k + 1, by omega, by go_num, HF.out, hb.alloc hb.size _⟩
      case measure => simp [intOf]; omega
  ·have e : k = n := by omega
   subst e
   go_wp2
   go_ret
   exact ⟨zcs HA.out.symm, hb⟩
end Go.Proofs.YtpbimdkclnekeaaGreat
