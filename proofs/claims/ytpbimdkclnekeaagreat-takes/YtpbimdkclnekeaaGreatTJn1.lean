import Derived.Test.YtpbimdkclnekeaaGreatTBrd0
import Derived.Deep.RegionHeld3

namespace Go.Proofs.YtpbimdkclnekeaaGreat
open Value (int)
open IntKind (i64)
open Go.RowKit Go.Maps Go.Shelf
set_option linter.unusedVariables false
attribute [local go_sem] Oper.semAt_some
def stepF (ord : Cl -> Cl -> Int) (o : Option Cl) (x : Cl) : Option Cl := match o with
 | none => some x
 | some f => if ord x f < 0 then some x else some f
def zfd (ord : Cl -> Cl -> Int) (l : List Cl) : Option Cl := l.foldl (stepF ord) none
theorem foldF_snoc (ord : Cl -> Cl -> Int) (l : List Cl) (x : Cl) : zfd ord (l ++ [x]) = stepF ord (zfd ord l) x := by simp [zfd]
def zdf (x : Cl) : Obj := .cells #[int i64 x.cnt, int i64 x.sum, .int .i32 x.mn, .int .i32 x.mx] 114 (0, 0)
theorem set4c {w : World} {g : Nat} {a b c d : Value} {t : TypeId} {fr : Nat × Nat} (h : w.heap[g]? = some (.cells #[a, b, c, d] t fr)) (x y z u : Value) : ((((w.setCell ⟨g, 0, none⟩ x).setCell ⟨g, 1, none⟩ y).setCell ⟨g, 2, none⟩ z).setCell ⟨g, 3, none⟩ u).heap[g]? = some (.cells #[x, y, z, u] t fr) := by
 have := zbz (i := 3) (zbz (i := 2) (zbz (i := 1) (zbz (i := 0) h x) y) z) u
 exact this
theorem zck {w : World} {g i k : Nat} {v : Value} (h : k ≠ g) : (w.setCell ⟨g, i, none⟩ v).heap[k]? = w.heap[k]? := by
 rcases Nat.lt_or_gt_of_ne h with h | h
 ·exact ((Below.refl (k + 1) w).setCell (p := ⟨g, i, none⟩) (show k + 1 <= g from h) v).block k (Nat.lt_succ_self _)
 ·have hk : zan (fun k => k = g) w (w.setCell ⟨g, i, none⟩ v) := zag (zan.refl _ _) rfl
  by_cases hl : k < w.heap.size
  ·exact hk.block k hl (by omega)
  ·have h1 : w.heap[k]? = none := by simp; omega
   have h2 : (w.setCell ⟨g, i, none⟩ v).heap.size = w.heap.size := by simp [World.setCell]
   rw [h1]; simp [h2]; omega
structure FI (ov : Value) (ot : TypeId) (w : World) (o : Option Cl) (W : World) : Prop where
 i1 : W.heap[w.heap.size]? = some (.cells #[ov] ot (0, 0))
 i2 : W.heap[w.heap.size + 1]? = some (zdf zds)
 i3 : W.heap[w.heap.size + 2]? = some (zdf (o.getD zds))
 i4 : W.heap[w.heap.size + 3]? = some (.cells #[.bool o.isSome] 4 (0, 0))
 i5 : Below w.heap.size w W
theorem FI.own {ov : Value} {ot : TypeId} {w A B : World} {o : Option Cl} {row : Option Nat} {N : Nat} (hN : w.heap.size <= N) (hs : FI ov ot w o A) (hg : A.grownBy B row) (hr : ∀ r, row = some r -> N <= r /\ ∃ o : Obj, A.heap[r]? = some o /\ o.isCells = false) : FI ov ot w o B :=
 ⟨zbc hs.i1 hg (fun r e => (hr r e).2), zbc hs.i2 hg (fun r e => (hr r e).2), zbc hs.i3 hg (fun r e => (hr r e).2), zbc hs.i4 hg (fun r e => (hr r e).2), hs.i5.grown hg hs.i5.size (fun k e => by have := (hr k e).1; omega)⟩
theorem FI.later {ov : Value} {ot : TypeId} {w A B : World} {o : Option Cl} (h : FI ov ot w o A) (hb : Below A.heap.size A B) : FI ov ot w o B :=
 ⟨(hb.block _ (zaa h.i1)).trans h.i1, (hb.block _ (zaa h.i2)).trans h.i2, (hb.block _ (zaa h.i3)).trans h.i3, (hb.block _ (zaa h.i4)).trans h.i4, h.i5.trans (hb.mono h.i5.size)⟩
theorem first_stay {ov : Value} {ot : TypeId} {w W X : World} {o o' : Option Cl} {Kp : World -> World -> Prop} {N : Nat} (h : FI ov ot w o W) (ho : o' = o) (hkp : Keeping w.heap.size Kp) (hb : Below W.heap.size W X) : KeepsFrom N W X /\ Kp W X /\ FI ov ot w o' X := by
 subst ho
 exact ⟨(zep hb).from _, hkp.of _ _ (zep hb) (hb.mono h.i5.size), h.later hb⟩
theorem first_set {ov : Value} {ot : TypeId} {w W X : World} {o o' : Option Cl} {x : Cl} {Kp : World -> World -> Prop} {N : Nat} (h : FI ov ot w o W) (ho : o' = some x) (hkp : Keeping w.heap.size Kp) (hb : Below W.heap.size W X) :
  KeepsFrom N W (((((X.setCell ⟨w.heap.size + 2, 0, none⟩ (int i64 x.cnt)).setCell ⟨w.heap.size + 2, 1, none⟩ (int i64 x.sum)).setCell ⟨w.heap.size + 2, 2, none⟩ (.int .i32 x.mn)).setCell ⟨w.heap.size + 2, 3, none⟩ (.int .i32 x.mx)).setCell ⟨w.heap.size + 3, 0, none⟩ (.bool true)) /\ Kp W (((((X.setCell ⟨w.heap.size + 2, 0, none⟩ (int i64 x.cnt)).setCell ⟨w.heap.size + 2, 1, none⟩ (int i64 x.sum)).setCell ⟨w.heap.size + 2, 2, none⟩ (.int .i32 x.mn)).setCell ⟨w.heap.size + 2, 3, none⟩ (.int .i32 x.mx)).setCell ⟨w.heap.size + 3, 0, none⟩ (.bool true)) /\ FI ov ot w o' (((((X.setCell ⟨w.heap.size + 2, 0, none⟩ (int i64 x.cnt)).setCell ⟨w.heap.size + 2, 1, none⟩ (int i64 x.sum)).setCell ⟨w.heap.size + 2, 2, none⟩ (.int .i32 x.mn)).setCell ⟨w.heap.size + 2, 3, none⟩ (.int .i32 x.mx)).setCell ⟨w.heap.size + 3, 0, none⟩ (.bool true)) := by
 subst ho
 have hX := h.later hb
 have k1 : KeepsOthers W (((((X.setCell ⟨w.heap.size + 2, 0, none⟩ (int i64 x.cnt)).setCell ⟨w.heap.size + 2, 1, none⟩ (int i64 x.sum)).setCell ⟨w.heap.size + 2, 2, none⟩ (.int .i32 x.mn)).setCell ⟨w.heap.size + 2, 3, none⟩ (.int .i32 x.mx)).setCell ⟨w.heap.size + 3, 0, none⟩ (.bool true)) := (((((zep hb).trans (KeepsOthers.setCell _ _ _)).trans (KeepsOthers.setCell _ _ _)).trans (KeepsOthers.setCell _ _ _)).trans (KeepsOthers.setCell _ _ _)).trans (KeepsOthers.setCell _ _ _)
 have k2 : Below w.heap.size W (((((X.setCell ⟨w.heap.size + 2, 0, none⟩ (int i64 x.cnt)).setCell ⟨w.heap.size + 2, 1, none⟩ (int i64 x.sum)).setCell ⟨w.heap.size + 2, 2, none⟩ (.int .i32 x.mn)).setCell ⟨w.heap.size + 2, 3, none⟩ (.int .i32 x.mx)).setCell ⟨w.heap.size + 3, 0, none⟩ (.bool true)) := (((((hb.mono h.i5.size).setCell (p := ⟨w.heap.size + 2, 0, none⟩) (show w.heap.size <= w.heap.size + 2 by omega) _).setCell (p := ⟨w.heap.size + 2, 1, none⟩) (show w.heap.size <= w.heap.size + 2 by omega) _).setCell (p := ⟨w.heap.size + 2, 2, none⟩) (show w.heap.size <= w.heap.size + 2 by omega) _).setCell (p := ⟨w.heap.size + 2, 3, none⟩) (show w.heap.size <= w.heap.size + 2 by omega) _).setCell (p := ⟨w.heap.size + 3, 0, none⟩) (show w.heap.size <= w.heap.size + 3 by omega) _
 have h3 := set4c hX.i3 (int i64 x.cnt) (int i64 x.sum) (.int .i32 x.mn) (.int .i32 x.mx)
 have far : ∀ k, k ≠ w.heap.size + 2 -> ((((X.setCell ⟨w.heap.size + 2, 0, none⟩ (int i64 x.cnt)).setCell ⟨w.heap.size + 2, 1, none⟩ (int i64 x.sum)).setCell ⟨w.heap.size + 2, 2, none⟩ (.int .i32 x.mn)).setCell ⟨w.heap.size + 2, 3, none⟩ (.int .i32 x.mx)).heap[k]? = X.heap[k]? := fun k hk => by
  rw [zck hk, zck hk, zck hk, zck hk]
 have h4 := zbz (i := 0) ((far (w.heap.size + 3) (by omega)).trans hX.i4) (.bool true)
 refine ⟨k1.from _, hkp.of _ _ k1 k2, ⟨?_, ?_, ?_, h4, h.i5.trans k2⟩⟩
 ·rw [zck (by omega), far _ (by omega)]; exact hX.i1
 ·rw [zck (by omega), far _ (by omega)]; exact hX.i2
 ·rw [zck (by omega)]; exact h3
set_option maxRecDepth 100000 in
set_option maxHeartbeats 4000000 in
theorem first1_any (gf : Nat) (lb : Array Value) (eg : ∀ args w, (callFunc gf args).run Tryz.prog w = .ok (.enter gf args) w) {Kp : World -> World -> Prop} {S Sp : List Cl -> Prop} {N : Nat} (w : World) (hkp : Keeping w.heap.size Kp)
  (hseq : SeqStopsK Fence.wide 6 Tryz.prog gf lb (fun x : Cl => #[.agg #[int i64 x.cnt, int i64 x.sum, .int .i32 x.mn, .int .i32 x.mx]]) Kp S Sp N w) :
  Calls Tryz.prog 181 #[.func (.func gf) #[] lb, .func (.func 183) #[] #[]] w fun e w' => ∃ xs, S xs /\ e = .returned (.tuple #[clV ((zfd ord1 xs).getD zds), .bool (zfd ord1 xs).isSome]) /\ Below w.heap.size w w' := by
 have HSEQ := zab hseq
 have HKP := zab hkp
 have HEG := zab eg
 obtain ⟨b1, b2, b3, hbw3, bz3⟩ := box3p w (.cells #[.func (.func 183) #[] #[]] 256) (zdf zds) (zdf zds)
 have HFI : Hid (FI (.func (.func 183) #[] #[]) 256 w none ((((w.alloc (.cells #[.func (.func 183) #[] #[]] 256)).alloc (zdf zds)).alloc (zdf zds)).alloc (.cells #[.bool false] 4))) :=
  ⟨(Below.heap_alloc _ _ _ (by rw [bz3]; omega)).trans b1, (Below.heap_alloc _ _ _ (by rw [bz3]; omega)).trans b2, (Below.heap_alloc _ _ _ (by rw [bz3]; omega)).trans b3, by have := zap (((w.alloc (.cells #[.func (.func 183) #[] #[]] 256)).alloc (zdf zds)).alloc (zdf zds)) (.cells #[.bool false] 4); rw [bz3] at this; exact this, hbw3.alloc (by rw [bz3]; omega) _⟩
 have BZ : Hid (((((w.alloc (.cells #[.func (.func 183) #[] #[]] 256)).alloc (zdf zds)).alloc (zdf zds)).alloc (.cells #[.bool false] 4)).heap.size = w.heap.size + 4) := by show _ = _; rw [zbd, bz3]
 clear hseq hkp eg b1 b2 b3 hbw3 bz3
 unfold zdf zds at HFI BZ
 dsimp only at HFI BZ
 refine (callsIn_wide (n := 7)).1 ?_
 refine callsIn_of_wp_marks Tryz.func181 rfl trivial ?_ rfl
 simp only [Tryz.ntmps181, List.size_toArray, List.length_cons, List.length_nil, Nat.reduceAdd, Nat.reduceSub, Array.replicate_succ, Array.replicate_zero, List.push_toArray, List.append_toArray, List.nil_append, List.cons_append]
 gi_wp2
 obtain ⟨W0, hW0⟩ : ∃ W0, ((((w.alloc (.cells #[.func (.func 183) #[] #[]] 256)).alloc (.cells #[int i64 0, int i64 0, .int .i32 0, .int .i32 0] 114)).alloc (.cells #[int i64 0, int i64 0, .int .i32 0, .int .i32 0] 114)).alloc (.cells #[.bool false] 4)) = W0 := ⟨_, rfl⟩
 rw [hW0] at HFI BZ ⊢
 clear hW0
 have hz : W0.heap.size = w.heap.size + 4 := ud BZ
 refine wpIn_rangeFunc_ownH (F := Fence.wide) (n := 7) rfl (by omega) (gf := gf) (lb := lb) rfl trivial (ud HEG) (ud HSEQ) (ud HKP).t (fun W l o o' hl => (ud HKP).b W l o o' (by omega)) (ud HFI).i5 (fun _ => rfl)
  (fun pre W => FI (.func (.func 183) #[] #[]) 256 w (zfd ord1 pre) W)
  (fun _ _ _ => False)
  (fun s A B row hs hg hr => FI.own (by omega) hs hg hr)
  (fun _ _ _ _ _ hs _ _ => hs)
  (ud HFI)
  (fun x a' W => ∃ Bx, w.heap.size + 4 <= Bx /\ W.heap[Bx]? = some (.cells #[int i64 x.cnt, int i64 x.sum, .int .i32 x.mn, .int .i32 x.mx] 114 (0, 0)) /\ a' = { tmps := #[.func (.func gf) #[] lb, .func (.func 183) #[] #[], undef, .pointer (some ⟨w.heap.size, 0, none⟩), .pointer (some ⟨w.heap.size + 1, 0, none⟩), .bool false, .pointer (some ⟨w.heap.size + 2, 0, none⟩), .pointer (some ⟨w.heap.size + 3, 0, none⟩), .pointer (some ⟨Bx, 0, none⟩), .func (.func gf) #[] lb, .agg #[int i64 x.cnt, int i64 x.sum, .int .i32 x.mn, .int .i32 x.mx], undef, undef, undef, undef, undef, undef, undef, undef, undef, undef, undef, undef], defers := [] })
  (fun x a' s A B row hs hg hr => by
   obtain ⟨Bx, h1, h2, h3⟩ := hs
   exact ⟨Bx, h1, zbc h2 hg (fun r e => (hr r e).2), h3⟩) ?assign ?body ?done ?stop
 case assign =>
  rintro l pre x W K hi hK
  have hwz := hi.i5.size
  have hbz := zaa hi.i4
  have HK := zab hK
  have HI := zab hi
  clear hK hi
  gi_wp2
  refine ud HK _ _ ((KeepsOthers.alloc _ _).from _) ((ud HKP).of _ _ (KeepsOthers.alloc _ _) ((Below.refl _ W).alloc hwz _)) ((ud HI).later ((Below.refl _ _).alloc (Nat.le_refl _) _)) ⟨W.heap.size, by omega, zap _ _, rfl⟩
 case body =>
  rintro l pre x a' W hl ⟨r, hr⟩ hi ⟨Bx, hBx, hx, rfl⟩ hlt
  have hwz := hi.i5.size
  have hBz := zaa hx
  have hsz := zaa hi.i4
  have c1 : W.cell? ⟨w.heap.size, 0, none⟩ = some (.func (.func 183) #[] #[]) := by rw [zac hi.i1]; rfl
  have x0 : W.cell? ⟨Bx, 0, none⟩ = some (int i64 x.cnt) := by rw [zac hx]; rfl
  have x1 : W.cell? ⟨Bx, 1, none⟩ = some (int i64 x.sum) := by rw [zac hx]; rfl
  have x2 : W.cell? ⟨Bx, 2, none⟩ = some (.int .i32 x.mn) := by rw [zac hx]; rfl
  have x3 : W.cell? ⟨Bx, 3, none⟩ = some (.int .i32 x.mx) := by rw [zac hx]; rfl
  have hne1 : ¬ Bx = w.heap.size + 2 := by omega
  have hne2 : ¬ Bx = w.heap.size + 3 := by omega
  have HI := zab hi
  have HX := zab hx
  have hsn := foldF_snoc ord1 pre x
  cases hF : zfd ord1 pre with
  | none =>
   rw [hF] at hi HI hsn
   have g0 : W.cell? ⟨w.heap.size + 2, 0, none⟩ = some (int i64 0) := by rw [zac hi.i3]; rfl
   have g1 : W.cell? ⟨w.heap.size + 2, 1, none⟩ = some (int i64 0) := by rw [zac hi.i3]; rfl
   have g2 : W.cell? ⟨w.heap.size + 2, 2, none⟩ = some (.int .i32 0) := by rw [zac hi.i3]; rfl
   have g3 : W.cell? ⟨w.heap.size + 2, 3, none⟩ = some (.int .i32 0) := by rw [zac hi.i3]; rfl
   have gf1 := fun j => zaz hi.i3 j
   have gf2 := fun j => zaz hi.i4 j
   have c4 : W.cell? ⟨w.heap.size + 3, 0, none⟩ = some (.bool false) := by rw [zac hi.i4]; rfl
   have HSN := zab hsn
   clear hi hx hF hsn
   gi_wp2
   refine ⟨fun _ h => (by cases h), ?_⟩
   gi_wp2
   all_goals (try go_bits)
   exact first_set (ud HI) (ud HSN) (ud HKP) (Below.refl _ _)
  | some f =>
   rw [hF] at hi HI hsn
   have g0 : W.cell? ⟨w.heap.size + 2, 0, none⟩ = some (int i64 f.cnt) := by rw [zac hi.i3]; rfl
   have g1 : W.cell? ⟨w.heap.size + 2, 1, none⟩ = some (int i64 f.sum) := by rw [zac hi.i3]; rfl
   have g2 : W.cell? ⟨w.heap.size + 2, 2, none⟩ = some (.int .i32 f.mn) := by rw [zac hi.i3]; rfl
   have g3 : W.cell? ⟨w.heap.size + 2, 3, none⟩ = some (.int .i32 f.mx) := by rw [zac hi.i3]; rfl
   have c4 : W.cell? ⟨w.heap.size + 3, 0, none⟩ = some (.bool true) := by rw [zac hi.i4]; rfl
   have HC := zab (join1_any x f W)
   have hs2 := zaa hi.i3
   clear hi hx hF
   by_cases ho : ord1 x f < 0
   ·have HSN := zab (hsn.trans (show stepF ord1 (some f) x = some x by simp [stepF, ho]))
    clear hsn
    generalize ord1 x f = O at *
    gi_wp2_with (first | (refine ⟨trivial, ?_⟩; gi_at_call 183; refine (CallsIn.inRound l (callsIn_wide.2 (ud HC))).mono ?_; rintro e w' ⟨rfl, hb'⟩; have d0 := (hb'.cell (p := ⟨Bx, 0, none⟩) hBz).trans x0; have d1 := (hb'.cell (p := ⟨Bx, 1, none⟩) hBz).trans x1; have d2 := (hb'.cell (p := ⟨Bx, 2, none⟩) hBz).trans x2; have d3 := (hb'.cell (p := ⟨Bx, 3, none⟩) hBz).trans x3; have e0 := (hb'.cell (p := ⟨w.heap.size + 2, 0, none⟩) hs2).trans g0; have e1 := (hb'.cell (p := ⟨w.heap.size + 2, 1, none⟩) hs2).trans g1; have e2 := (hb'.cell (p := ⟨w.heap.size + 2, 2, none⟩) hs2).trans g2; have e3 := (hb'.cell (p := ⟨w.heap.size + 2, 3, none⟩) hs2).trans g3; have e4 := (hb'.cell (p := ⟨w.heap.size + 3, 0, none⟩) hsz).trans c4; have gf1 := fun j => zaz ((ud HI).later hb').i3 j; have gf2 := fun j => zaz ((ud HI).later hb').i4 j; have HB' := zab hb'; clear hb') | gi_in)
    all_goals (try go_bits)
    exact first_set (ud HI) (ud HSN) (ud HKP) (ud HB')
   ·have HSN := zab (hsn.trans (show stepF ord1 (some f) x = some f by simp [stepF, ho]))
    have ho2 : decide (ord1 x f < 0) = false := by simpa using ho
    clear hsn
    generalize ord1 x f = O at *
    gi_wp2_with (first | (refine ⟨trivial, ?_⟩; gi_at_call 183; refine (CallsIn.inRound l (callsIn_wide.2 (ud HC))).mono ?_; rintro e w' ⟨rfl, hb'⟩; have HB' := zab hb'; clear hb') | gi_in)
    all_goals (try go_bits)
    exact first_stay (ud HI) (ud HSN) (ud HKP) (ud HB')
 case done =>
  rintro D xs W hD hS hi hK
  have HI := zab hi
  have HK := zab hK
  have HS := zab hS
  obtain ⟨fo, hfo⟩ : ∃ fo, zfd ord1 xs = fo := ⟨_, rfl⟩
  rw [hfo] at hi HI
  have g0 : W.cell? ⟨w.heap.size + 2, 0, none⟩ = some (int i64 (fo.getD zds).cnt) := by rw [zac hi.i3]; rfl
  have g1 : W.cell? ⟨w.heap.size + 2, 1, none⟩ = some (int i64 (fo.getD zds).sum) := by rw [zac hi.i3]; rfl
  have g2 : W.cell? ⟨w.heap.size + 2, 2, none⟩ = some (.int .i32 (fo.getD zds).mn) := by rw [zac hi.i3]; rfl
  have g3 : W.cell? ⟨w.heap.size + 2, 3, none⟩ = some (.int .i32 (fo.getD zds).mx) := by rw [zac hi.i3]; rfl
  have c4 : W.cell? ⟨w.heap.size + 3, 0, none⟩ = some (.bool fo.isSome) := by rw [zac hi.i4]; rfl
  have r0 : W.cell? ⟨w.heap.size + 1, 0, none⟩ = some (int i64 0) := by rw [zac hi.i2]; rfl
  have r1 : W.cell? ⟨w.heap.size + 1, 1, none⟩ = some (int i64 0) := by rw [zac hi.i2]; rfl
  have r2 : W.cell? ⟨w.heap.size + 1, 2, none⟩ = some (.int .i32 0) := by rw [zac hi.i2]; rfl
  have r3 : W.cell? ⟨w.heap.size + 1, 3, none⟩ = some (.int .i32 0) := by rw [zac hi.i2]; rfl
  have gf1 := fun j => zaz hi.i2 j
  have HFO := zab hfo
  clear hi hK hS hfo
  obtain ⟨g, hg⟩ : ∃ g, fo.getD zds = g := ⟨_, rfl⟩
  obtain ⟨bb, hbb⟩ : ∃ bb, fo.isSome = bb := ⟨_, rfl⟩
  rw [hg] at g0 g1 g2 g3
  rw [hbb] at c4
  have HG := zab hg
  have HBB := zab hbb
  clear hg hbb
  gi_wp2
  gi_region
  gi_wp2
  have hne : D ≠ w.heap.size + 1 := by omega
  have hrow := set4d (ud HI).i2 (int i64 g.cnt) (int i64 g.sum) (.int .i32 g.mn) (.int .i32 g.mx)
  have hKZ : (((((W.setCell ⟨w.heap.size + 1, 0, none⟩ (int i64 g.cnt)).setCell ⟨w.heap.size + 1, 1, none⟩ (int i64 g.sum)).setCell ⟨w.heap.size + 1, 2, none⟩ (.int .i32 g.mn)).setCell ⟨w.heap.size + 1, 3, none⟩ (.int .i32 g.mx)).drew).heap[D]? = some (.deferred (some [])) := by
   show ((((W.setCell ⟨w.heap.size + 1, 0, none⟩ (int i64 g.cnt)).setCell ⟨w.heap.size + 1, 1, none⟩ (int i64 g.sum)).setCell ⟨w.heap.size + 1, 2, none⟩ (.int .i32 g.mn)).setCell ⟨w.heap.size + 1, 3, none⟩ (.int .i32 g.mx)).heap[D]? = _
   rw [zck hne, zck hne, zck hne, zck hne]; exact ud HK
  have hbel := ((ud HI).i5).trans (below4d (w := W) (B := w.heap.size) (g := w.heap.size + 1) (Nat.le_succ _) (int i64 g.cnt) (int i64 g.sum) (.int .i32 g.mn) (.int .i32 g.mx))
  refine ⟨by simp, .inl ⟨_, _, rfl, run_takeDeferred hKZ, ?_⟩⟩
  refine ⟨_, zak Tryz.results181 _ _ (w.heap.size + 1) _ _ _ _ _ rfl rfl ((World.putObj_heap_other (fun e => hne e.symm)).trans hrow) Tryz.underlying114 rfl (by kernel_rfl), xs, ud HS, ?_, zdp hbel (Nat.le_refl _) (by omega) hKZ _⟩
  rw [ud HFO, ud HG, ud HBB]; rfl
 case stop =>
  rintro D c pre W _ _ h _
  exact h.elim
set_option maxRecDepth 100000 in
set_option maxHeartbeats 4000000 in
theorem first2_any (gf : Nat) (lb : Array Value) (eg : ∀ args w, (callFunc gf args).run Tryz.prog w = .ok (.enter gf args) w) {Kp : World -> World -> Prop} {S Sp : List Cl -> Prop} {N : Nat} (w : World) (hkp : Keeping w.heap.size Kp)
  (hseq : SeqStopsK Fence.wide 6 Tryz.prog gf lb (fun x : Cl => #[.agg #[int i64 x.cnt, int i64 x.sum, .int .i32 x.mn, .int .i32 x.mx]]) Kp S Sp N w) :
  Calls Tryz.prog 181 #[.func (.func gf) #[] lb, .func (.func 185) #[] #[]] w fun e w' => ∃ xs, S xs /\ e = .returned (.tuple #[clV ((zfd ord2 xs).getD zds), .bool (zfd ord2 xs).isSome]) /\ Below w.heap.size w w' := by
 have HSEQ := zab hseq
 have HKP := zab hkp
 have HEG := zab eg
 obtain ⟨b1, b2, b3, hbw3, bz3⟩ := box3p w (.cells #[.func (.func 185) #[] #[]] 256) (zdf zds) (zdf zds)
 have HFI : Hid (FI (.func (.func 185) #[] #[]) 256 w none ((((w.alloc (.cells #[.func (.func 185) #[] #[]] 256)).alloc (zdf zds)).alloc (zdf zds)).alloc (.cells #[.bool false] 4))) :=
  ⟨(Below.heap_alloc _ _ _ (by rw [bz3]; omega)).trans b1, (Below.heap_alloc _ _ _ (by rw [bz3]; omega)).trans b2, (Below.heap_alloc _ _ _ (by rw [bz3]; omega)).trans b3, by have := zap (((w.alloc (.cells #[.func (.func 185) #[] #[]] 256)).alloc (zdf zds)).alloc (zdf zds)) (.cells #[.bool false] 4); rw [bz3] at this; exact this, hbw3.alloc (by rw [bz3]; omega) _⟩
 have BZ : Hid (((((w.alloc (.cells #[.func (.func 185) #[] #[]] 256)).alloc (zdf zds)).alloc (zdf zds)).alloc (.cells #[.bool false] 4)).heap.size = w.heap.size + 4) := by show _ = _; rw [zbd, bz3]
 clear hseq hkp eg b1 b2 b3 hbw3 bz3
 unfold zdf zds at HFI BZ
 dsimp only at HFI BZ
 refine (callsIn_wide (n := 7)).1 ?_
 refine callsIn_of_wp_marks Tryz.func181 rfl trivial ?_ rfl
 simp only [Tryz.ntmps181, List.size_toArray, List.length_cons, List.length_nil, Nat.reduceAdd, Nat.reduceSub, Array.replicate_succ, Array.replicate_zero, List.push_toArray, List.append_toArray, List.nil_append, List.cons_append]
 gi_wp2
 obtain ⟨W0, hW0⟩ : ∃ W0, ((((w.alloc (.cells #[.func (.func 185) #[] #[]] 256)).alloc (.cells #[int i64 0, int i64 0, .int .i32 0, .int .i32 0] 114)).alloc (.cells #[int i64 0, int i64 0, .int .i32 0, .int .i32 0] 114)).alloc (.cells #[.bool false] 4)) = W0 := ⟨_, rfl⟩
 rw [hW0] at HFI BZ ⊢
 clear hW0
 have hz : W0.heap.size = w.heap.size + 4 := ud BZ
 refine wpIn_rangeFunc_ownH (F := Fence.wide) (n := 7) rfl (by omega) (gf := gf) (lb := lb) rfl trivial (ud HEG) (ud HSEQ) (ud HKP).t (fun W l o o' hl => (ud HKP).b W l o o' (by omega)) (ud HFI).i5 (fun _ => rfl)
  (fun pre W => FI (.func (.func 185) #[] #[]) 256 w (zfd ord2 pre) W)
  (fun _ _ _ => False)
  (fun s A B row hs hg hr => FI.own (by omega) hs hg hr)
  (fun _ _ _ _ _ hs _ _ => hs)
  (ud HFI)
  (fun x a' W => ∃ Bx, w.heap.size + 4 <= Bx /\ W.heap[Bx]? = some (.cells #[int i64 x.cnt, int i64 x.sum, .int .i32 x.mn, .int .i32 x.mx] 114 (0, 0)) /\ a' = { tmps := #[.func (.func gf) #[] lb, .func (.func 185) #[] #[], undef, .pointer (some ⟨w.heap.size, 0, none⟩), .pointer (some ⟨w.heap.size + 1, 0, none⟩), .bool false, .pointer (some ⟨w.heap.size + 2, 0, none⟩), .pointer (some ⟨w.heap.size + 3, 0, none⟩), .pointer (some ⟨Bx, 0, none⟩), .func (.func gf) #[] lb, .agg #[int i64 x.cnt, int i64 x.sum, .int .i32 x.mn, .int .i32 x.mx], undef, undef, undef, undef, undef, undef, undef, undef, undef, undef, undef, undef], defers := [] })
  (fun x a' s A B row hs hg hr => by
   obtain ⟨Bx, h1, h2, h3⟩ := hs
   exact ⟨Bx, h1, zbc h2 hg (fun r e => (hr r e).2), h3⟩) ?assign ?body ?done ?stop
 case assign =>
  rintro l pre x W K hi hK
  have hwz := hi.i5.size
  have hbz := zaa hi.i4
  have HK := zab hK
  have HI := zab hi
  clear hK hi
  gi_wp2
  refine ud HK _ _ ((KeepsOthers.alloc _ _).from _) ((ud HKP).of _ _ (KeepsOthers.alloc _ _) ((Below.refl _ W).alloc hwz _)) ((ud HI).later ((Below.refl _ _).alloc (Nat.le_refl _) _)) ⟨W.heap.size, by omega, zap _ _, rfl⟩
 case body =>
  rintro l pre x a' W hl ⟨r, hr⟩ hi ⟨Bx, hBx, hx, rfl⟩ hlt
  have hwz := hi.i5.size
  have hBz := zaa hx
  have hsz := zaa hi.i4
  have c1 : W.cell? ⟨w.heap.size, 0, none⟩ = some (.func (.func 185) #[] #[]) := by rw [zac hi.i1]; rfl
  have x0 : W.cell? ⟨Bx, 0, none⟩ = some (int i64 x.cnt) := by rw [zac hx]; rfl
  have x1 : W.cell? ⟨Bx, 1, none⟩ = some (int i64 x.sum) := by rw [zac hx]; rfl
  have x2 : W.cell? ⟨Bx, 2, none⟩ = some (.int .i32 x.mn) := by rw [zac hx]; rfl
  have x3 : W.cell? ⟨Bx, 3, none⟩ = some (.int .i32 x.mx) := by rw [zac hx]; rfl
  have hne1 : ¬ Bx = w.heap.size + 2 := by omega
  have hne2 : ¬ Bx = w.heap.size + 3 := by omega
  have HI := zab hi
  have HX := zab hx
  have hsn := foldF_snoc ord2 pre x
  cases hF : zfd ord2 pre with
  | none =>
   rw [hF] at hi HI hsn
   have g0 : W.cell? ⟨w.heap.size + 2, 0, none⟩ = some (int i64 0) := by rw [zac hi.i3]; rfl
   have g1 : W.cell? ⟨w.heap.size + 2, 1, none⟩ = some (int i64 0) := by rw [zac hi.i3]; rfl
   have g2 : W.cell? ⟨w.heap.size + 2, 2, none⟩ = some (.int .i32 0) := by rw [zac hi.i3]; rfl
   have g3 : W.cell? ⟨w.heap.size + 2, 3, none⟩ = some (.int .i32 0) := by rw [zac hi.i3]; rfl
   have gf1 := fun j => zaz hi.i3 j
   have gf2 := fun j => zaz hi.i4 j
   have c4 : W.cell? ⟨w.heap.size + 3, 0, none⟩ = some (.bool false) := by rw [zac hi.i4]; rfl
   have HSN := zab hsn
   clear hi hx hF hsn
   gi_wp2
   refine ⟨fun _ h => (by cases h), ?_⟩
   gi_wp2
   all_goals (try go_bits)
   exact first_set (ud HI) (ud HSN) (ud HKP) (Below.refl _ _)
  | some f =>
   rw [hF] at hi HI hsn
   have g0 : W.cell? ⟨w.heap.size + 2, 0, none⟩ = some (int i64 f.cnt) := by rw [zac hi.i3]; rfl
   have g1 : W.cell? ⟨w.heap.size + 2, 1, none⟩ = some (int i64 f.sum) := by rw [zac hi.i3]; rfl
   have g2 : W.cell? ⟨w.heap.size + 2, 2, none⟩ = some (.int .i32 f.mn) := by rw [zac hi.i3]; rfl
   have g3 : W.cell? ⟨w.heap.size + 2, 3, none⟩ = some (.int .i32 f.mx) := by rw [zac hi.i3]; rfl
   have c4 : W.cell? ⟨w.heap.size + 3, 0, none⟩ = some (.bool true) := by rw [zac hi.i4]; rfl
   have HC := zab (join2_any x f W)
   have hs2 := zaa hi.i3
   clear hi hx hF
   by_cases ho : ord2 x f < 0
   ·have HSN := zab (hsn.trans (show stepF ord2 (some f) x = some x by simp [stepF, ho]))
    clear hsn
    generalize ord2 x f = O at *
    gi_wp2_with (first | (refine ⟨trivial, ?_⟩; gi_at_call 185; refine (CallsIn.inRound l (callsIn_wide.2 (ud HC))).mono ?_; rintro e w' ⟨rfl, hb'⟩; have d0 := (hb'.cell (p := ⟨Bx, 0, none⟩) hBz).trans x0; have d1 := (hb'.cell (p := ⟨Bx, 1, none⟩) hBz).trans x1; have d2 := (hb'.cell (p := ⟨Bx, 2, none⟩) hBz).trans x2; have d3 := (hb'.cell (p := ⟨Bx, 3, none⟩) hBz).trans x3; have e0 := (hb'.cell (p := ⟨w.heap.size + 2, 0, none⟩) hs2).trans g0; have e1 := (hb'.cell (p := ⟨w.heap.size + 2, 1, none⟩) hs2).trans g1; have e2 := (hb'.cell (p := ⟨w.heap.size + 2, 2, none⟩) hs2).trans g2; have e3 := (hb'.cell (p := ⟨w.heap.size + 2, 3, none⟩) hs2).trans g3; have e4 := (hb'.cell (p := ⟨w.heap.size + 3, 0, none⟩) hsz).trans c4; have gf1 := fun j => zaz ((ud HI).later hb').i3 j; have gf2 := fun j => zaz ((ud HI).later hb').i4 j; have HB' := zab hb'; clear hb') | gi_in)
    all_goals (try go_bits)
    exact first_set (ud HI) (ud HSN) (ud HKP) (ud HB')
   ·have HSN := zab (hsn.trans (show stepF ord2 (some f) x = some f by simp [stepF, ho]))
    have ho2 : decide (ord2 x f < 0) = false := by simpa using ho
    clear hsn
    generalize ord2 x f = O at *
    gi_wp2_with (first | (refine ⟨trivial, ?_⟩; gi_at_call 185; refine (CallsIn.inRound l (callsIn_wide.2 (ud HC))).mono ?_; rintro e w' ⟨rfl, hb'⟩; have HB' := zab hb'; clear hb') | gi_in)
    all_goals (try go_bits)
    exact first_stay (ud HI) (ud HSN) (ud HKP) (ud HB')
 case done =>
  rintro D xs W hD hS hi hK
  have HI := zab hi
  have HK := zab hK
  have HS := zab hS
  obtain ⟨fo, hfo⟩ : ∃ fo, zfd ord2 xs = fo := ⟨_, rfl⟩
  rw [hfo] at hi HI
  have g0 : W.cell? ⟨w.heap.size + 2, 0, none⟩ = some (int i64 (fo.getD zds).cnt) := by rw [zac hi.i3]; rfl
  have g1 : W.cell? ⟨w.heap.size + 2, 1, none⟩ = some (int i64 (fo.getD zds).sum) := by rw [zac hi.i3]; rfl
  have g2 : W.cell? ⟨w.heap.size + 2, 2, none⟩ = some (.int .i32 (fo.getD zds).mn) := by rw [zac hi.i3]; rfl
  have g3 : W.cell? ⟨w.heap.size + 2, 3, none⟩ = some (.int .i32 (fo.getD zds).mx) := by rw [zac hi.i3]; rfl
  have c4 : W.cell? ⟨w.heap.size + 3, 0, none⟩ = some (.bool fo.isSome) := by rw [zac hi.i4]; rfl
  have r0 : W.cell? ⟨w.heap.size + 1, 0, none⟩ = some (int i64 0) := by rw [zac hi.i2]; rfl
  have r1 : W.cell? ⟨w.heap.size + 1, 1, none⟩ = some (int i64 0) := by rw [zac hi.i2]; rfl
  have r2 : W.cell? ⟨w.heap.size + 1, 2, none⟩ = some (.int .i32 0) := by rw [zac hi.i2]; rfl
  have r3 : W.cell? ⟨w.heap.size + 1, 3, none⟩ = some (.int .i32 0) := by rw [zac hi.i2]; rfl
  have gf1 := fun j => zaz hi.i2 j
  have HFO := zab hfo
  clear hi hK hS hfo
  obtain ⟨g, hg⟩ : ∃ g, fo.getD zds = g := ⟨_, rfl⟩
  obtain ⟨bb, hbb⟩ : ∃ bb, fo.isSome = bb := ⟨_, rfl⟩
  rw [hg] at g0 g1 g2 g3
  rw [hbb] at c4
  have HG := zab hg
  have HBB := zab hbb
  clear hg hbb
  gi_wp2
  gi_region
  gi_wp2
  have hne : D ≠ w.heap.size + 1 := by omega
  have hrow := set4d (ud HI).i2 (int i64 g.cnt) (int i64 g.sum) (.int .i32 g.mn) (.int .i32 g.mx)
  have hKZ : (((((W.setCell ⟨w.heap.size + 1, 0, none⟩ (int i64 g.cnt)).setCell ⟨w.heap.size + 1, 1, none⟩ (int i64 g.sum)).setCell ⟨w.heap.size + 1, 2, none⟩ (.int .i32 g.mn)).setCell ⟨w.heap.size + 1, 3, none⟩ (.int .i32 g.mx)).drew).heap[D]? = some (.deferred (some [])) := by
   show ((((W.setCell ⟨w.heap.size + 1, 0, none⟩ (int i64 g.cnt)).setCell ⟨w.heap.size + 1, 1, none⟩ (int i64 g.sum)).setCell ⟨w.heap.size + 1, 2, none⟩ (.int .i32 g.mn)).setCell ⟨w.heap.size + 1, 3, none⟩ (.int .i32 g.mx)).heap[D]? = _
   rw [zck hne, zck hne, zck hne, zck hne]; exact ud HK
  have hbel := ((ud HI).i5).trans (below4d (w := W) (B := w.heap.size) (g := w.heap.size + 1) (Nat.le_succ _) (int i64 g.cnt) (int i64 g.sum) (.int .i32 g.mn) (.int .i32 g.mx))
  refine ⟨by simp, .inl ⟨_, _, rfl, run_takeDeferred hKZ, ?_⟩⟩
  refine ⟨_, zak Tryz.results181 _ _ (w.heap.size + 1) _ _ _ _ _ rfl rfl ((World.putObj_heap_other (fun e => hne e.symm)).trans hrow) Tryz.underlying114 rfl (by kernel_rfl), xs, ud HS, ?_, zdp hbel (Nat.le_refl _) (by omega) hKZ _⟩
  rw [ud HFO, ud HG, ud HBB]; rfl
 case stop =>
  rintro D c pre W _ _ h _
  exact h.elim
def zdn (zs : List Cl) : Cl := ⟨wsum (zs.map (·.cnt)), wsum (zs.map (·.sum)), ((zfd ord1 zs).getD zds).mn, ((zfd ord2 zs).getD zds).mx⟩
section
variable {b cap : Nat} {ad : Option Addr} {zs : List Cl} {Y : World}
theorem cv_alloc (ha : zs ≠ [] -> ad = some ⟨b, 0, none⟩) (hz : zs.length <= 1000) (hb : b < Y.heap.size) (hc : CAt Y b zs) : SeqStopsK Fence.wide 6 Tryz.prog 218 #[.pointer (some ⟨Y.heap.size, 0, none⟩)] (fun x : Cl => #[.agg #[int i64 x.cnt, int i64 x.sum, .int .i32 x.mn, .int .i32 x.mx]]) (Below (Y.alloc (.cells #[.slice ad zs.length cap] 219)).heap.size) (fun xs => xs = zs) (fun _ => True) zs.length (Y.alloc (.cells #[.slice ad zs.length cap] 219)) :=
 cvalues_stops 6 (by omega) Y.heap.size _ b cap ad zs ha hz (by simp; omega) _ (Nat.le_refl _) (by simp) (by rw [zac (zap _ _)]; rfl) (hc.below ((Below.refl _ _).alloc (Nat.le_refl _) _) hb)
theorem up_alloc {w' : World} {o : Obj} (h : Below (Y.alloc o).heap.size (Y.alloc o) w') : Below Y.heap.size Y w' := ((Below.refl _ _).alloc (Nat.le_refl _) o).trans (h.mono (by simp))
theorem sumc_any (V : Int) (hV : wsum (zs.map (·.cnt)) = V) (ha : zs ≠ [] -> ad = some ⟨b, 0, none⟩) (hz : zs.length <= 1000) (hb : b < Y.heap.size) (hc : CAt Y b zs) : Calls Tryz.prog 186 #[.func (.func 218) #[] #[.pointer (some ⟨Y.heap.size, 0, none⟩)], .func (.func 187) #[] #[]] (Y.alloc (.cells #[.slice ad zs.length cap] 219)) fun e w' => e = .returned (int i64 V) /\ Below Y.heap.size Y w' := by
 refine (sum_cnt _ _ cv_enters (·.cnt) _ (keeping_below _) (fun x W _ => join3_any x W) (cv_alloc ha hz hb hc)).mono ?_
 rintro e w' ⟨xs, rfl, rfl, h⟩
 exact ⟨by rw [hV], up_alloc h⟩
theorem sums_any (V : Int) (hV : wsum (zs.map (·.sum)) = V) (ha : zs ≠ [] -> ad = some ⟨b, 0, none⟩) (hz : zs.length <= 1000) (hb : b < Y.heap.size) (hc : CAt Y b zs) : Calls Tryz.prog 188 #[.func (.func 218) #[] #[.pointer (some ⟨Y.heap.size, 0, none⟩)], .func (.func 189) #[] #[]] (Y.alloc (.cells #[.slice ad zs.length cap] 219)) fun e w' => e = .returned (int i64 V) /\ Below Y.heap.size Y w' := by
 refine (sum_sum _ _ cv_enters (·.sum) _ (keeping_below _) (fun x W _ => join4_any x W) (cv_alloc ha hz hb hc)).mono ?_
 rintro e w' ⟨xs, rfl, rfl, h⟩
 exact ⟨by rw [hV], up_alloc h⟩
theorem least_any (f : Cl) (s : Bool) (hf : (zfd ord1 zs).getD zds = f) (hs : (zfd ord1 zs).isSome = s) (ha : zs ≠ [] -> ad = some ⟨b, 0, none⟩) (hz : zs.length <= 1000) (hb : b < Y.heap.size) (hc : CAt Y b zs) : Calls Tryz.prog 181 #[.func (.func 218) #[] #[.pointer (some ⟨Y.heap.size, 0, none⟩)], .func (.func 183) #[] #[]] (Y.alloc (.cells #[.slice ad zs.length cap] 219)) fun e w' => e = .returned (.tuple #[.agg #[int i64 f.cnt, int i64 f.sum, .int .i32 f.mn, .int .i32 f.mx], .bool s]) /\ Below Y.heap.size Y w' := by
 refine (first1_any _ _ cv_enters _ (keeping_below _) (cv_alloc ha hz hb hc)).mono ?_
 rintro e w' ⟨xs, rfl, rfl, h⟩
 exact ⟨by rw [hf, hs]; rfl, up_alloc h⟩
theorem greatest_any (f : Cl) (s : Bool) (hf : (zfd ord2 zs).getD zds = f) (hs : (zfd ord2 zs).isSome = s) (ha : zs ≠ [] -> ad = some ⟨b, 0, none⟩) (hz : zs.length <= 1000) (hb : b < Y.heap.size) (hc : CAt Y b zs) : Calls Tryz.prog 181 #[.func (.func 218) #[] #[.pointer (some ⟨Y.heap.size, 0, none⟩)], .func (.func 185) #[] #[]] (Y.alloc (.cells #[.slice ad zs.length cap] 219)) fun e w' => e = .returned (.tuple #[.agg #[int i64 f.cnt, int i64 f.sum, .int .i32 f.mn, .int .i32 f.mx], .bool s]) /\ Below Y.heap.size Y w' := by
 refine (first2_any _ _ cv_enters _ (keeping_below _) (cv_alloc ha hz hb hc)).mono ?_
 rintro e w' ⟨xs, rfl, rfl, h⟩
 exact ⟨by rw [hf, hs]; rfl, up_alloc h⟩
end
set_option maxHeartbeats 4000000 in
theorem join_any (ad : Option Addr) (b cap : Nat) (zs : List Cl) (ha : zs ≠ [] -> ad = some ⟨b, 0, none⟩) (hz : zs.length <= 1000) (w : World) (hb : b < w.heap.size) (hc : CAt w b zs) :
  Calls Tryz.prog 141 #[.slice ad zs.length cap] w fun e w' => e = .returned (clV (zdn zs)) /\ Below w.heap.size w w' := by
 obtain ⟨f1, hf1⟩ : ∃ f, (zfd ord1 zs).getD zds = f := ⟨_, rfl⟩
 obtain ⟨s1, hs1⟩ : ∃ f, (zfd ord1 zs).isSome = f := ⟨_, rfl⟩
 obtain ⟨f2, hf2⟩ : ∃ f, (zfd ord2 zs).getD zds = f := ⟨_, rfl⟩
 obtain ⟨s2, hs2⟩ : ∃ f, (zfd ord2 zs).isSome = f := ⟨_, rfl⟩
 obtain ⟨v1, hv1⟩ : ∃ f, wsum (zs.map (·.cnt)) = f := ⟨_, rfl⟩
 obtain ⟨v2, hv2⟩ : ∃ f, wsum (zs.map (·.sum)) = f := ⟨_, rfl⟩
 have hj : clV (zdn zs) = .agg #[int i64 v1, int i64 v2, .int .i32 f1.mn, .int .i32 f2.mx] := by unfold zdn clV; rw [hf1, hf2, hv1, hv2]
 rw [hj]
 clear hj
 have HV1 := zab hv1
 have HV2 := zab hv2
 have hb0 : Below w.heap.size w (w.alloc (.cells #[int i64 0, int i64 0, .int .i32 0, .int .i32 0] 114)) := (Below.refl _ _).alloc (Nat.le_refl _) _
 have hl0 := zap w (.cells #[int i64 0, int i64 0, .int .i32 0, .int .i32 0] 114)
 have hz0 := zbd w (.cells #[int i64 0, int i64 0, .int .i32 0, .int .i32 0] 114)
 have HVA := fun Y => zab (cvalues_any ad zs.length cap Y)
 have HLE := fun (Y : World) (hb : b < Y.heap.size) (hc : CAt Y b zs) => zab (least_any (cap := cap) (Y := Y) f1 s1 hf1 hs1 ha hz hb hc)
 have HGR := fun (Y : World) (hb : b < Y.heap.size) (hc : CAt Y b zs) => zab (greatest_any (cap := cap) (Y := Y) f2 s2 hf2 hs2 ha hz hb hc)
 have HSC := fun (Y : World) (hb : b < Y.heap.size) (hc : CAt Y b zs) => zab (sumc_any (cap := cap) (Y := Y) v1 hv1 ha hz hb hc)
 have HSS := fun (Y : World) (hb : b < Y.heap.size) (hc : CAt Y b zs) => zab (sums_any (cap := cap) (Y := Y) v2 hv2 ha hz hb hc)
 clear hf1 hs1 hf2 hs2 hv1 hv2 hz ha
 go_enter Tryz.func141, Tryz.ntmps141
 go_wp2_with fail
 have hc0 := hc.below hb0 hb
 generalize (w.alloc (.cells #[int i64 0, int i64 0, .int .i32 0, .int .i32 0] 114)) = X0 at *
 have hbX0 : b < X0.heap.size := by omega
 have hw0 : w.heap.size < X0.heap.size := by omega
 have HZ0 := zab hz0
 clear hz0
 have HVA0 := HVA X0
 refine (ud HVA0).mono ?_
 rintro e x1 ⟨rfl, rfl⟩
 go_wp2_with fail
 have HL1 := HLE X0 hbX0 hc0
 refine (ud HL1).mono ?_
 rintro e X1 ⟨rfl, hb1⟩
 have HB1 := zab hb1
 clear hb1
 go_wp2_with fail
 have hbA := (ud HB1).alloc (ud HB1).size (.cells #[int i64 f1.cnt, int i64 f1.sum, .int .i32 f1.mn, .int .i32 f1.mx] 114)
 have hlA := zap X1 (.cells #[int i64 f1.cnt, int i64 f1.sum, .int .i32 f1.mn, .int .i32 f1.mx] 114)
 have hzA := zbd X1 (.cells #[int i64 f1.cnt, int i64 f1.sum, .int .i32 f1.mn, .int .i32 f1.mx] 114)
 have hcA := hc0.below hbA (by omega)
 generalize (X1.alloc (.cells #[int i64 f1.cnt, int i64 f1.sum, .int .i32 f1.mn, .int .i32 f1.mx] 114)) = XA at *
 have hzx := hbA.size
 have hbXA : b < XA.heap.size := by omega
 have hwA : w.heap.size < XA.heap.size := by omega
 have hxA : X1.heap.size < XA.heap.size := by omega
 have HZA := zab hzA
 clear hzA
 have HVA1 := HVA XA
 refine (ud HVA1).mono ?_
 rintro e x1 ⟨rfl, rfl⟩
 go_wp2_with fail
 have HL2 := HGR XA hbXA hcA
 refine (ud HL2).mono ?_
 rintro e X2 ⟨rfl, hb2⟩
 have HB2 := zab hb2
 clear hb2
 go_wp2_with fail
 have hbB := (ud HB2).alloc (ud HB2).size (.cells #[int i64 f2.cnt, int i64 f2.sum, .int .i32 f2.mn, .int .i32 f2.mx] 114)
 have hlB := zap X2 (.cells #[int i64 f2.cnt, int i64 f2.sum, .int .i32 f2.mn, .int .i32 f2.mx] 114)
 have hzB := zbd X2 (.cells #[int i64 f2.cnt, int i64 f2.sum, .int .i32 f2.mn, .int .i32 f2.mx] 114)
 have hcB := hcA.below hbB (by omega)
 have hlA2 := (hbB.block X1.heap.size (by omega)).trans hlA
 have hl02 := (hbB.block w.heap.size (by omega)).trans ((hbA.block w.heap.size (by omega)).trans hl0)
 have hwB : Below w.heap.size w (X2.alloc (.cells #[int i64 f2.cnt, int i64 f2.sum, .int .i32 f2.mn, .int .i32 f2.mx] 114)) := hb0.trans ((hbA.mono (Nat.le_of_lt hw0)).trans (hbB.mono (Nat.le_of_lt hwA)))
 have hzy := hbB.size
 have hzz := (ud HB2).size
 generalize (X2.alloc (.cells #[int i64 f2.cnt, int i64 f2.sum, .int .i32 f2.mn, .int .i32 f2.mx] 114)) = XB at *
 have l1 : XB.cell? ⟨X1.heap.size, 2, none⟩ = some (.int .i32 f1.mn) := by rw [zac hlA2]; rfl
 have l2 : XB.cell? ⟨X2.heap.size, 3, none⟩ = some (.int .i32 f2.mx) := by rw [zac hlB]; rfl
 have r0 : XB.cell? ⟨w.heap.size, 0, none⟩ = some (int i64 0) := by rw [zac hl02]; rfl
 have r1 : XB.cell? ⟨w.heap.size, 1, none⟩ = some (int i64 0) := by rw [zac hl02]; rfl
 have r2 : XB.cell? ⟨w.heap.size, 2, none⟩ = some (.int .i32 0) := by rw [zac hl02]; rfl
 have r3 : XB.cell? ⟨w.heap.size, 3, none⟩ = some (.int .i32 0) := by rw [zac hl02]; rfl
 have rf := fun j => zaz hl02 j
 have HL0 := zab hl02
 have HWB := zab hwB
 have hz1 : X1.heap.size < XB.heap.size := by omega
 have hz2 : X2.heap.size < XB.heap.size := by omega
 have hz3 : w.heap.size < XB.heap.size := by omega
 have hbb : b < XB.heap.size := by omega
 clear hl0 hlA hlA2 hlB hl02 hbA hbB hwB hcA hc0 hc hzx hzy hzz hzB hb0
 have hn1 : ¬ X1.heap.size = w.heap.size := by have := (ud HB1).size; omega
 have hn2 : ¬ X2.heap.size = w.heap.size := by have := (ud HB2).size; omega
 have hn3 : ¬ w.heap.size = X1.heap.size := fun h => hn1 h.symm
 have hn4 : ¬ w.heap.size = X2.heap.size := fun h => hn2 h.symm
 have HSCB : Hid (Calls Tryz.prog 186 #[.func (.func 218) #[] #[.pointer (some ⟨XB.heap.size, 0, none⟩)], .func (.func 187) #[] #[]] (XB.alloc (.cells #[.slice ad zs.length cap] 219)).drew fun e w' => e = .returned (int i64 v1) /\ Below XB.heap.size XB w') := zab ((ud (HSC XB.drew hbb hcB)).mono fun e w' h => ⟨h.1, ⟨h.2.os, h.2.tape, h.2.output, h.2.size, h.2.block⟩⟩)
 go_region_held3 (fun w' => w'.cell? ⟨X1.heap.size, 2, none⟩ = some (.int .i32 f1.mn) /\ w'.cell? ⟨X2.heap.size, 3, none⟩ = some (.int .i32 f2.mx)) (go_keep) (first
  | (go_at_call 182; refine (ud (HVA _)).mono ?_; rintro e x1 ⟨rfl, rfl⟩)
  | (go_at_call 186; refine (ud HSCB).mono ?_; rintro e X3 ⟨rfl, hb3⟩; have m1 : X3.cell? ⟨X1.heap.size, 2, none⟩ = some (.int .i32 f1.mn) := (hb3.cell (p := ⟨X1.heap.size, 2, none⟩) hz1).trans l1; have m2 : X3.cell? ⟨X2.heap.size, 3, none⟩ = some (.int .i32 f2.mx) := (hb3.cell (p := ⟨X2.heap.size, 3, none⟩) hz2).trans l2; have hbb3 : b < X3.heap.size := Nat.lt_of_lt_of_le hbb hb3.size; have hc3 : CAt X3 b zs := hcB.below hb3 hbb; have hz31 : X1.heap.size < X3.heap.size := Nat.lt_of_lt_of_le hz1 hb3.size; have hz32 : X2.heap.size < X3.heap.size := Nat.lt_of_lt_of_le hz2 hb3.size; have hz33 : w.heap.size < X3.heap.size := Nat.lt_of_lt_of_le hz3 hb3.size; have HL3 := zab ((hb3.block w.heap.size hz3).trans (ud HL0)); have HB3 := zab hb3; clear hb3)
  | (go_at_call 188; (first | refine (ud (HSS X3 hbb3 hc3)).mono ?_ | refine (ud (HSS X3.drew hbb3 hc3)).mono ?_); rintro e X4 ⟨rfl, hb4⟩; have n1 : X4.cell? ⟨X1.heap.size, 2, none⟩ = some (.int .i32 f1.mn) := (hb4.cell (p := ⟨X1.heap.size, 2, none⟩) hz31).trans m1; have n2 : X4.cell? ⟨X2.heap.size, 3, none⟩ = some (.int .i32 f2.mx) := (hb4.cell (p := ⟨X2.heap.size, 3, none⟩) hz32).trans m2; have hl4 := (hb4.block w.heap.size hz33).trans (ud HL3); have q0 : X4.cell? ⟨w.heap.size, 0, none⟩ = some (int i64 0) := (by rw [zac hl4]; rfl); have q1 : X4.cell? ⟨w.heap.size, 1, none⟩ = some (int i64 0) := (by rw [zac hl4]; rfl); have q2 : X4.cell? ⟨w.heap.size, 2, none⟩ = some (.int .i32 0) := (by rw [zac hl4]; rfl); have q3 : X4.cell? ⟨w.heap.size, 3, none⟩ = some (.int .i32 0) := (by rw [zac hl4]; rfl); have qf := fun j => zaz hl4 j; have HL4 := zab hl4; have HB4 := zab hb4; clear hl4 hb4))
 go_wp2_with fail
 have hf := set4c (ud HL4) (int i64 v1) (int i64 v2) (.int .i32 f1.mn) (.int .i32 f2.mx)
 have hwf := (ud HWB).trans (((ud HB3).mono (Nat.le_of_lt hz3)).trans (((ud HB4).mono (Nat.le_of_lt hz33)).trans (below4 (w := X4) (B := w.heap.size) (g := w.heap.size) (Nat.le_refl _) (int i64 v1) (int i64 v2) (.int .i32 f1.mn) (.int .i32 f2.mx))))
 refine bodyPost_ret (v := .agg #[int i64 v1, int i64 v2, .int .i32 f1.mn, .int .i32 f2.mx]) (results_cell_row Tryz.results141 _ _ w.heap.size _ _ _ _ rfl hf Tryz.underlying114 rfl (by kernel_rfl)) rfl ?_
 exact ⟨rfl, hwf⟩
end Go.Proofs.YtpbimdkclnekeaaGreat

namespace Go.Proofs.YtpbimdkclnekeaaGreat
open Value (int)
open IntKind (i64)
open Go.RowKit Go.Maps Go.Shelf
open Go.ChangeMaps (setBlock)
set_option linter.unusedVariables false
def newCl (v : Int) : Cl := ⟨1, v, v, v⟩
def Cl.small (x : Cl) : Prop := 0 <= x.cnt /\ x.cnt <= 1000000000000 /\ -1000000000000000000 <= x.sum /\ x.sum <= 1000000000000000000
theorem join_one (v : Int) (hv : -2147483648 <= v /\ v <= 2147483647) : zdn [newCl v] = zdy v none := by
 unfold zdn
 have h1 : wsum ([newCl v].map (·.cnt)) = 1 := by rw [wsum_small] <;> simp [zcx, newCl]
 have h2 : wsum ([newCl v].map (·.sum)) = v := by rw [wsum_small] <;> simp [zcx, newCl]; omega
 rw [h1, h2]
 simp [zfd, stepF, newCl, zdy]
theorem cmp_neg (a b : Int) : cmpI a b < 0 ↔ a < b := by
 unfold cmpI; split
 ·simp [*]
 ·split <;> simp [*]
theorem join_two (v : Int) (hv : -2147483648 <= v /\ v <= 2147483647) (o : Cl) (ho : o.small) : zdn [newCl v, o] = zdy v (some o) := by
 obtain ⟨o1, o2, o3, o4⟩ := ho
 unfold zdn
 have h1 : wsum ([newCl v, o].map (·.cnt)) = 1 + o.cnt := by rw [wsum_small] <;> simp [zcx, newCl]; omega
 have h2 : wsum ([newCl v, o].map (·.sum)) = v + o.sum := by rw [wsum_small] <;> simp [zcx, newCl]; omega
 rw [h1, h2]
 have e1 : ((zfd ord1 [newCl v, o]).getD zds).mn = if o.mn < v then o.mn else v := by
  simp only [zfd, List.foldl_cons, List.foldl_nil, stepF, ord1, cmp_neg, newCl]
  split <;> simp
 have e2 : ((zfd ord2 [newCl v, o]).getD zds).mx = if v < o.mx then o.mx else v := by
  simp only [zfd, List.foldl_cons, List.foldl_nil, stepF, ord2, cmp_neg, newCl]
  split <;> simp
 rw [e1, e2]; rfl
def stepA (L : LV) (x : WSg) : LV := if (stL L x.1).st = 0 then putL L x.1 ⟨2, zds⟩ else L
def addPre (L : LV) (l : List WSg) : LV := l.foldl stepA L
theorem addPre_snoc (L : LV) (l : List WSg) (x : WSg) : addPre L (l ++ [x]) = stepA (addPre L l) x := by simp [addPre]
theorem putL_len (L : LV) (s : Sg) (v : SV) : (putL L s v).length <= L.length + 1 := by unfold putL; split <;> simp
theorem stepA_len (L : LV) (x : WSg) : (stepA L x).length <= L.length + 1 := by unfold stepA; split; exact putL_len _ _ _; omega
def stOk (L : LV) : Prop := ∀ p ∈ L, p.2.st ≠ 0
theorem stOk_put {L : LV} {s : Sg} {v : SV} (h : stOk L) (hv : v.st ≠ 0) : stOk (putL L s v) := fun p hp => by
 rcases zde hp with rfl | ⟨hp, _⟩
 ·exact hv
 ·exact h p hp
theorem miss_iff {L : LV} (h : stOk L) (s : Sg) : (stL L s).st = 0 ↔ s ∉ zam L := by
 constructor
 ·intro h0 hm
  obtain ⟨v, hv, hvm⟩ := getL_of hm
  unfold stL at h0; rw [hv] at h0; exact h _ hvm h0
 ·intro hm; unfold stL; rw [zfg.2 hm]; rfl
theorem stepA_ok {L : LV} (h : stOk L) (x : WSg) : stOk (stepA L x) := by
 unfold stepA; split
 ·exact stOk_put h (by simp)
 ·exact h
theorem addPre_ok : ∀ (l : List WSg) {L : LV} (h : stOk L), stOk (addPre L l)
 | [], L, h => h
 | x :: l, L, h => addPre_ok l (stepA_ok h x)
theorem addPre_tiers {c : Cf} (hc : c.ok) {ser tm val : Int} (hser : 0 <= ser /\ ser < 4) (htm : 0 <= tm /\ tm <= 100000) {L : LV} (h : stOk L) : ∀ k, k <= c.n -> addPre L ((zec c ser tm k).map wSeg) = addTo c ⟨ser, tm, val⟩ k L
 | 0, _ => rfl
 | k + 1, hk => by
  have ih := addPre_tiers hc (val := val) hser htm h k (by omega)
  have hok := addPre_ok ((zec c ser tm k).map wSeg) h
  rw [tierSegs_succ, List.map_append, List.map_singleton, addPre_snoc]
  rw [ih] at hok ⊢
  show _ = zdc c ⟨ser, tm, val⟩ k _
  unfold stepA zdc
  rw [wSeg_val (tierSeg_wf hc hser htm (by omega))]
  have e : zar c (k : Int) ⟨ser, tm, val⟩ = zdm c ser tm k := rfl
  rw [e]
  by_cases hm : zdm c ser tm k ∈ zam (addTo c ⟨ser, tm, val⟩ k L)
  ·rw [if_pos hm, if_neg (fun h0 => (miss_iff hok _).1 h0 hm)]
  ·rw [if_neg hm, if_pos ((miss_iff hok _).2 hm)]
theorem owns_new {w : World} {base g size n : Nat} {e : TypeId} {xs : List Value} (h : w.heap[g]? = some (.cells xs.toArray e (0, 0))) (hl : xs.length = n * size) (hn : 0 < n) (hm : n <= maxLen) (hb : base <= g) : w.ownsRow base e size (.slice (some ⟨g, 0, none⟩) n n) n xs :=
 ⟨hl, .inr ⟨g, n, _, rfl, hb, h, ⟨Nat.le_refl _, hm, by simp [hl], by
  show List.take (n * size) xs = xs
  exact List.take_of_length_le (by omega)⟩⟩⟩
def clCells (x : Cl) : List Value := [int i64 x.cnt, int i64 x.sum, .int .i32 x.mn, .int .i32 x.mx]
theorem CAt.of_owns {w : World} {base g cap : Nat} {e : TypeId} {zs : List Cl} (h : w.ownsRow base e 4 (.slice (some ⟨g, 0, none⟩) zs.length cap) zs.length (zs.flatMap clCells)) : CAt w g zs := fun j x hx => by
 have hj : j < zs.length := (List.getElem?_eq_some_iff.1 hx).1
 have hf := fun i hi => zek (f := clCells) (k := 4) (fun _ => rfl) zs j x i hx hi
 refine ⟨?_, ?_, ?_, ?_⟩
 ·rw [h.cellAt (j * 4) (by omega)]; exact hf 0 (by omega)
 ·rw [h.cellAt (j * 4 + 1) (by omega)]; exact hf 1 (by omega)
 ·rw [h.cellAt (j * 4 + 2) (by omega)]; exact hf 2 (by omega)
 ·rw [h.cellAt (j * 4 + 3) (by omega)]; exact hf 3 (by omega)
theorem run_store2 {X : World} {s lb gb : Nat} {c : Cf} {tv : Value} {Gl : List (Sg × Unit)} {L : LV} (h : zda X s c tv lb gb Gl L) (hroom : L.length < maxLen) {k : Sg} (hk : k.wf) (v : SV) :
  ∃ o, (Instr.mapUpdate 135 (.map (some lb)) (.agg #[int i64 k.t, int i64 k.ser, int i64 k.win]) (.agg #[int i64 v.st, int i64 v.cl.cnt, int i64 v.cl.sum, .int .i32 v.cl.mn, .int .i32 v.cl.mx])).run Tryz.prog X = .ok () (setBlock X lb o) /\ zda (setBlock X lb o) s c tv lb gb Gl (putL L k v) /\ zan (fun k => k = lb) X (setBlock X lb o) /\ o.isCells = false := by
 obtain ⟨o, h1, h2, h3, h4⟩ := run_store h.live hroom hk v
 have ne_cells : ∀ {k : Nat} {cs : Array Value} {t : TypeId} {fr : Nat × Nat}, X.heap[k]? = some (.cells cs t fr) -> ¬ k = lb := fun hk e => by
  obtain ⟨es, cl, hb, _⟩ := h.live; rw [e, hb] at hk; cases hk
 refine ⟨o, h1, ⟨h3.heap h.head (ne_cells h.head), zae h.trow h3 (fun k hk => ?_), h2, h.gone.kept h3 h.apart, h.apart⟩, h3, h4⟩
 obtain ⟨cur, hcur⟩ := zbp h.trow hk
 exact ne_cells hcur
def stepG (Gl : List (Sg × Unit)) (L : LV) (x : WSg) : LV := if (stG Gl L x.1).st = 0 then putL L x.1 ⟨2, zds⟩ else L
def zfe (Gl : List (Sg × Unit)) (L : LV) (l : List WSg) : LV := l.foldl (stepG Gl) L
theorem addPreG_snoc (Gl : List (Sg × Unit)) (L : LV) (l : List WSg) (x : WSg) : zfe Gl L (l ++ [x]) = stepG Gl (zfe Gl L l) x := by simp [zfe]
theorem stepG_len (Gl : List (Sg × Unit)) (L : LV) (x : WSg) : (stepG Gl L x).length <= L.length + 1 := by unfold stepG; split; exact putL_len _ _ _; omega
theorem addPreG_len (Gl : List (Sg × Unit)) (L : LV) : ∀ l : List WSg, (zfe Gl L l).length <= L.length + l.length := by
 intro l
 induction l generalizing L with
 | nil => simp [zfe]
 | cons x l ih => have := stepG_len Gl L x; have h2 := ih (stepG Gl L x); simp only [zfe, List.foldl_cons, List.length_cons] at *; omega
theorem addPreG_eq (Gl : List (Sg × Unit)) : ∀ (l : List WSg) (L : LV), (∀ x ∈ l, zbm Gl x.1 = none) -> zfe Gl L l = addPre L l
 | [], _, _ => rfl
 | x :: l, L, h => by
  have e : stepG Gl L x = stepA L x := by unfold stepG stepA stG; rw [h x (by simp)]
  show zfe Gl (stepG Gl L x) l = addPre (stepA L x) l
  rw [e]; exact addPreG_eq Gl l _ (fun y hy => h y (by simp [hy]))
theorem lookTV {w X : World} {lb : Nat} {L : LV} {s : Sg} (hl : zeu w lb L) (hb : Below w.heap.size w X) (hs : s.wf) : (Instr.lookup 135 (.map (some lb)) (.agg #[int i64 s.t, int i64 s.ser, int i64 s.win]) true).run Tryz.prog X = .ok (.tuple #[.agg #[int i64 (stL L s).st, int i64 (stL L s).cl.cnt, int i64 (stL L s).cl.sum, .int .i32 (stL L s).cl.mn, .int .i32 (stL L s).cl.mx], .bool (getL L s).isSome]) X := by
 have := run_look true (hl.later hb) hs
 have e : lookV true (svVal ⟨0, zds⟩) L s = .tuple #[svVal (stL L s), .bool (getL L s).isSome] := by
  unfold lookV stL; cases getL L s <;> rfl
 rw [e] at this
 exact this
theorem Tryz.infoCell : (Tryz.prog.info? 114).map (fun i => (i.zero, i.size, i.bytes)) = some (some (.agg #[int i64 0, int i64 0, .int .i32 0, .int .i32 0]), 4, 24) := by kernel_rfl
theorem push_cl {w : World} {ops : Array Oper} {rest : List Oper} {o : Oper} {a : Act} {Q : Exit -> Act -> World -> Prop} (hgd : o.guard = none) (s x : Operand)
  (ho : o.op = .call { callee := .builtin .append, args := #[s, x], argTypes := #[219, 219] }) (base : Nat) (v : Value) (l : List Cl) (f : Cl) (hs : a.eval s = v) (hown : w.ownsRow base 114 4 v l.length (l.flatMap clCells))
  (B1 : Nat) (hx : a.eval x = .slice (some ⟨B1, 0, none⟩) 1 1) (hB1 : w.heap[B1]? = some (.cells #[int i64 f.cnt, int i64 f.sum, .int .i32 f.mn, .int .i32 f.mx] 114 (0, 0))) (hl : l.length <= 1000000000) (hbase : base <= w.heap.size)
  (h : ∀ g cap w', w'.ownsRow base 114 4 (.slice (some ⟨g, 0, none⟩) (l.length + 1) cap) (l ++ [f]).length ((l ++ [f]).flatMap clCells) -> w.grownBy w' v.ownBlock -> g < w'.heap.size -> wpList Tryz.prog ops Q rest (a.put o.dst (.slice (some ⟨g, 0, none⟩) (l.length + 1) cap)) w') : wpList Tryz.prog ops Q (o :: rest) a w :=
 zbg hgd s x 219 ho base 114 _ 4 24 Tryz.underlying219 Tryz.infoCell rfl (by decide) v l.length (l.flatMap clCells) hs hown ⟨B1, 0, none⟩ 1 1 [int i64 f.cnt, int i64 f.sum, .int .i32 f.mn, .int .i32 f.mx] hx rfl
  (World.news_of_block (cs := #[int i64 f.cnt, int i64 f.sum, .int .i32 f.mn, .int .i32 f.mx]) hB1) (by intro u hu; simp at hu; rcases hu with rfl | rfl | rfl | rfl <;> rfl) (by decide) (by simp only [maxLen]; omega) (by omega) hbase
  fun g cap w' h1 _ h3 _ h5 => h g cap w' (by rw [flat_snoc, List.length_append, List.length_singleton]; exact h1) h3 h5
theorem zbv {f : Nat -> Prop} {A B : World} (h : zan f A B) {k i : Nat} (hn : ¬ f k) (hl : k < A.heap.size) : B.cell? ⟨k, i, none⟩ = A.cell? ⟨k, i, none⟩ := by
 simp only [World.cell?, h.block k hl hn]
end Go.Proofs.YtpbimdkclnekeaaGreat
