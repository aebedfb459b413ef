import Derived.Test.YtpbimdkclnekeaaGreatTSeq0

namespace Go.Proofs.YtpbimdkclnekeaaGreat
open Value (int)
open IntKind (i64)
open Go.RowKit Go.Maps Go.Shelf
set_option linter.unusedVariables false
attribute [local go_sem] Oper.semAt_some
set_option maxRecDepth 100000 in
set_option maxHeartbeats 2000000 in
theorem sum_cnt (gf : Nat) (lb : Array Value) (eg : ∀ args w, (callFunc gf args).run Tryz.prog w = .ok (.enter gf args) w) {Kp : World -> World -> Prop} {S Sp : List Cl -> Prop} {N : Nat} (f : Cl -> Int) (w : World) (hkp : Keeping w.heap.size Kp)
  (hof : ∀ (x : Cl) (W : World), Below w.heap.size w W -> Calls Tryz.prog 187 #[.agg #[int i64 x.cnt, int i64 x.sum, .int .i32 x.mn, .int .i32 x.mx]] W fun e W' => e = .returned (int i64 (f x)) /\ Below W.heap.size W W')
  (hseq : SeqStopsK Fence.wide 6 Tryz.prog gf lb (fun x : Cl => #[.agg #[int i64 x.cnt, int i64 x.sum, .int .i32 x.mn, .int .i32 x.mx]]) Kp S Sp N w) :
  Calls Tryz.prog 186 #[.func (.func gf) #[] lb, .func (.func 187) #[] #[]] w fun e w' => ∃ xs, S xs /\ e = .returned (int i64 (wsum (xs.map f))) /\ Below w.heap.size w w' := by
 have HOF := zab hof
 have HSEQ := zab hseq
 have HKP := zab hkp
 have HEG := zab eg
 obtain ⟨b1, b2, hbw, bz⟩ := box2 w (.cells #[.func (.func 187) #[] #[]] 258) (.cells #[int i64 0] 3)
 clear hof hseq hkp eg
 refine (callsIn_wide (n := 7)).1 ?_
 refine callsIn_of_wp_marks Tryz.func186 rfl trivial ?_ rfl
 simp only [Tryz.ntmps186, List.size_toArray, List.length_cons, List.length_nil, Nat.reduceAdd, Nat.reduceSub, Array.replicate_succ, Array.replicate_zero, List.push_toArray, List.append_toArray, List.nil_append, List.cons_append]
 have B1 := zab b1
 have B2 := zab b2
 have HBW := zab hbw
 have BZ := zab bz
 clear b1 b2 hbw bz
 gi_wp2
 obtain ⟨W0, hW0⟩ : ∃ W0, ((w.alloc (.cells #[.func (.func 187) #[] #[]] 258)).alloc (.cells #[int i64 0] 3)) = W0 := ⟨_, rfl⟩
 rw [hW0] at B1 B2 HBW BZ ⊢
 clear hW0
 have hz : W0.heap.size = w.heap.size + 2 := ud BZ
 refine wpIn_rangeFunc_ownH (F := Fence.wide) (n := 7) rfl (by omega) (gf := gf) (lb := lb) rfl trivial (ud HEG) (ud HSEQ) (ud HKP).t (fun W l o o' hl => (ud HKP).b W l o o' (by omega)) (ud HBW) (fun _ => rfl)
  (fun pre W => W.heap[w.heap.size]? = some (.cells #[.func (.func 187) #[] #[]] 258 (0, 0)) /\ W.heap[w.heap.size + 1]? = some (.cells #[int i64 (wsum (pre.map f))] 3 (0, 0)) /\ Below w.heap.size w W)
  (fun _ _ _ => False)
  (fun s A B row hs hg hr => ⟨zbc hs.1 hg (fun r e => (hr r e).2), zbc hs.2.1 hg (fun r e => (hr r e).2), hs.2.2.grown hg (hs.2.2.size) (fun k e => by have := (hr k e).1; omega)⟩)
  (fun _ _ _ _ _ hs _ _ => hs)
  ⟨ud B1, ud B2, ud HBW⟩
  (fun x a' W => ∃ Bx, w.heap.size + 2 <= Bx /\ W.heap[Bx]? = some (.cells #[int i64 x.cnt, int i64 x.sum, .int .i32 x.mn, .int .i32 x.mx] 114 (0, 0)) /\ a' = { tmps := #[.func (.func gf) #[] lb, .func (.func 187) #[] #[], undef, .pointer (some ⟨w.heap.size, 0, none⟩), int i64 0, .pointer (some ⟨w.heap.size + 1, 0, none⟩), .pointer (some ⟨Bx, 0, none⟩), .func (.func gf) #[] lb, .agg #[int i64 x.cnt, int i64 x.sum, .int .i32 x.mn, .int .i32 x.mx], undef, undef, undef, undef, undef, undef], defers := [] })
  (fun x a' s A B row hs hg hr => by
   obtain ⟨Bx, h1, h2, h3⟩ := hs
   exact ⟨Bx, h1, zbc h2 hg (fun r e => (hr r e).2), h3⟩) ?assign ?body ?done ?stop
 case assign =>
  rintro l pre x W K ⟨i1, i2, i3⟩ hK
  have hwz := i3.size
  have hbz := zaa i2
  have HK := zab hK
  clear hK
  gi_wp2
  refine ud HK _ _ ((KeepsOthers.alloc _ _).from _) ((ud HKP).of _ _ (KeepsOthers.alloc _ _) ((Below.refl _ W).alloc hwz _)) ⟨(Below.heap_alloc _ _ _ (by omega)).trans i1, (Below.heap_alloc _ _ _ (by omega)).trans i2, i3.alloc hwz _⟩ ⟨W.heap.size, by omega, zap _ _, rfl⟩
 case body =>
  rintro l pre x a' W hl ⟨r, hr⟩ ⟨i1, i2, i3⟩ ⟨Bx, hBx, hx, rfl⟩ hlt
  have hwz := i3.size
  have hBz := zaa hx
  have hsz := zaa i2
  have c1 : W.cell? ⟨w.heap.size, 0, none⟩ = some (.func (.func 187) #[] #[]) := by rw [zac i1]; rfl
  have c2 : W.cell? ⟨w.heap.size + 1, 0, none⟩ = some (int i64 (wsum (pre.map f))) := by rw [zac i2]; rfl
  have f2 : W.frozen? ⟨w.heap.size + 1, 0, none⟩ = false := zaz i2 0
  have x0 : W.cell? ⟨Bx, 0, none⟩ = some (int i64 x.cnt) := by rw [zac hx]; rfl
  have x1 : W.cell? ⟨Bx, 1, none⟩ = some (int i64 x.sum) := by rw [zac hx]; rfl
  have x2 : W.cell? ⟨Bx, 2, none⟩ = some (.int .i32 x.mn) := by rw [zac hx]; rfl
  have x3 : W.cell? ⟨Bx, 3, none⟩ = some (.int .i32 x.mx) := by rw [zac hx]; rfl
  have HI := zab i2
  have HI1 := zab i1
  have HI3 := zab i3
  have HX := zab hx
  have hmx : Tryz.prog.follows .mixedOrders = true := by kernel_rfl
  have HC := zab (ud HOF x W i3)
  have HCD := zab (ud HOF x W.drew i3.drew)
  clear i1 i2 i3 hx
  gi_wp2
  gi_region_with_o (refine ⟨trivial, ?_⟩; gi_at_call 187; (first | refine (CallsIn.inRound l (callsIn_wide.2 (ud HC))).mono ?_ | refine (CallsIn.inRound l (callsIn_wide.2 (ud HCD))).mono ?_); rintro e w' ⟨rfl, hb'⟩; have d2 : w'.cell? ⟨w.heap.size + 1, 0, none⟩ = some (int i64 (wsum (pre.map f))) := (hb'.cell (p := ⟨w.heap.size + 1, 0, none⟩) hsz).trans c2; have e2 : w'.frozen? ⟨w.heap.size + 1, 0, none⟩ = false := zaz ((hb'.block _ hsz).trans (ud HI)) 0; have HB' := zab hb'; clear hb')
  all_goals gi_wp2
  all_goals (try go_bits)
  all_goals exact sum_round (x := x) rfl (ud HI1) (ud HI) (ud HI3) (ud HKP) ⟨(ud HB').os, (ud HB').tape, (ud HB').output, (ud HB').size, (ud HB').block⟩
 case done =>
  rintro D xs W hD hS ⟨i1, i2, i3⟩ hK
  have c2 : W.cell? ⟨w.heap.size + 1, 0, none⟩ = some (int i64 (wsum (xs.map f))) := by rw [zac i2]; rfl
  have HI3 := zab i3
  clear i1 i2 i3
  gi_wp2
  refine ⟨by simp, .inl ⟨_, _, rfl, run_takeDeferred hK, ?_⟩⟩
  exact ⟨_, results_tmp rfl _ _ _, xs, hS, rfl, zdp (ud HI3) (Nat.le_refl _) (by omega) hK _⟩
 case stop =>
  rintro D c pre W _ _ h _
  exact h.elim
set_option maxRecDepth 100000 in
set_option maxHeartbeats 2000000 in
theorem sum_sum (gf : Nat) (lb : Array Value) (eg : ∀ args w, (callFunc gf args).run Tryz.prog w = .ok (.enter gf args) w) {Kp : World -> World -> Prop} {S Sp : List Cl -> Prop} {N : Nat} (f : Cl -> Int) (w : World) (hkp : Keeping w.heap.size Kp)
  (hof : ∀ (x : Cl) (W : World), Below w.heap.size w W -> Calls Tryz.prog 189 #[.agg #[int i64 x.cnt, int i64 x.sum, .int .i32 x.mn, .int .i32 x.mx]] W fun e W' => e = .returned (int i64 (f x)) /\ Below W.heap.size W W')
  (hseq : SeqStopsK Fence.wide 6 Tryz.prog gf lb (fun x : Cl => #[.agg #[int i64 x.cnt, int i64 x.sum, .int .i32 x.mn, .int .i32 x.mx]]) Kp S Sp N w) :
  Calls Tryz.prog 188 #[.func (.func gf) #[] lb, .func (.func 189) #[] #[]] w fun e w' => ∃ xs, S xs /\ e = .returned (int i64 (wsum (xs.map f))) /\ Below w.heap.size w w' := by
 have HOF := zab hof
 have HSEQ := zab hseq
 have HKP := zab hkp
 have HEG := zab eg
 obtain ⟨b1, b2, hbw, bz⟩ := box2 w (.cells #[.func (.func 189) #[] #[]] 260) (.cells #[int i64 0] 2)
 clear hof hseq hkp eg
 refine (callsIn_wide (n := 7)).1 ?_
 refine callsIn_of_wp_marks Tryz.func188 rfl trivial ?_ rfl
 simp only [Tryz.ntmps188, List.size_toArray, List.length_cons, List.length_nil, Nat.reduceAdd, Nat.reduceSub, Array.replicate_succ, Array.replicate_zero, List.push_toArray, List.append_toArray, List.nil_append, List.cons_append]
 have B1 := zab b1
 have B2 := zab b2
 have HBW := zab hbw
 have BZ := zab bz
 clear b1 b2 hbw bz
 gi_wp2
 obtain ⟨W0, hW0⟩ : ∃ W0, ((w.alloc (.cells #[.func (.func 189) #[] #[]] 260)).alloc (.cells #[int i64 0] 2)) = W0 := ⟨_, rfl⟩
 rw [hW0] at B1 B2 HBW BZ ⊢
 clear hW0
 have hz : W0.heap.size = w.heap.size + 2 := ud BZ
 refine wpIn_rangeFunc_ownH (F := Fence.wide) (n := 7) rfl (by omega) (gf := gf) (lb := lb) rfl trivial (ud HEG) (ud HSEQ) (ud HKP).t (fun W l o o' hl => (ud HKP).b W l o o' (by omega)) (ud HBW) (fun _ => rfl)
  (fun pre W => W.heap[w.heap.size]? = some (.cells #[.func (.func 189) #[] #[]] 260 (0, 0)) /\ W.heap[w.heap.size + 1]? = some (.cells #[int i64 (wsum (pre.map f))] 2 (0, 0)) /\ Below w.heap.size w W)
  (fun _ _ _ => False)
  (fun s A B row hs hg hr => ⟨zbc hs.1 hg (fun r e => (hr r e).2), zbc hs.2.1 hg (fun r e => (hr r e).2), hs.2.2.grown hg (hs.2.2.size) (fun k e => by have := (hr k e).1; omega)⟩)
  (fun _ _ _ _ _ hs _ _ => hs)
  ⟨ud B1, ud B2, ud HBW⟩
  (fun x a' W => ∃ Bx, w.heap.size + 2 <= Bx /\ W.heap[Bx]? = some (.cells #[int i64 x.cnt, int i64 x.sum, .int .i32 x.mn, .int .i32 x.mx] 114 (0, 0)) /\ a' = { tmps := #[.func (.func gf) #[] lb, .func (.func 189) #[] #[], undef, .pointer (some ⟨w.heap.size, 0, none⟩), int i64 0, .pointer (some ⟨w.heap.size + 1, 0, none⟩), .pointer (some ⟨Bx, 0, none⟩), .func (.func gf) #[] lb, .agg #[int i64 x.cnt, int i64 x.sum, .int .i32 x.mn, .int .i32 x.mx], undef, undef, undef, undef, undef, undef], defers := [] })
  (fun x a' s A B row hs hg hr => by
   obtain ⟨Bx, h1, h2, h3⟩ := hs
   exact ⟨Bx, h1, zbc h2 hg (fun r e => (hr r e).2), h3⟩) ?assign ?body ?done ?stop
 case assign =>
  rintro l pre x W K ⟨i1, i2, i3⟩ hK
  have hwz := i3.size
  have hbz := zaa i2
  have HK := zab hK
  clear hK
  gi_wp2
  refine ud HK _ _ ((KeepsOthers.alloc _ _).from _) ((ud HKP).of _ _ (KeepsOthers.alloc _ _) ((Below.refl _ W).alloc hwz _)) ⟨(Below.heap_alloc _ _ _ (by omega)).trans i1, (Below.heap_alloc _ _ _ (by omega)).trans i2, i3.alloc hwz _⟩ ⟨W.heap.size, by omega, zap _ _, rfl⟩
 case body =>
  rintro l pre x a' W hl ⟨r, hr⟩ ⟨i1, i2, i3⟩ ⟨Bx, hBx, hx, rfl⟩ hlt
  have hwz := i3.size
  have hBz := zaa hx
  have hsz := zaa i2
  have c1 : W.cell? ⟨w.heap.size, 0, none⟩ = some (.func (.func 189) #[] #[]) := by rw [zac i1]; rfl
  have c2 : W.cell? ⟨w.heap.size + 1, 0, none⟩ = some (int i64 (wsum (pre.map f))) := by rw [zac i2]; rfl
  have f2 : W.frozen? ⟨w.heap.size + 1, 0, none⟩ = false := zaz i2 0
  have x0 : W.cell? ⟨Bx, 0, none⟩ = some (int i64 x.cnt) := by rw [zac hx]; rfl
  have x1 : W.cell? ⟨Bx, 1, none⟩ = some (int i64 x.sum) := by rw [zac hx]; rfl
  have x2 : W.cell? ⟨Bx, 2, none⟩ = some (.int .i32 x.mn) := by rw [zac hx]; rfl
  have x3 : W.cell? ⟨Bx, 3, none⟩ = some (.int .i32 x.mx) := by rw [zac hx]; rfl
  have HI := zab i2
  have HI1 := zab i1
  have HI3 := zab i3
  have HX := zab hx
  have hmx : Tryz.prog.follows .mixedOrders = true := by kernel_rfl
  have HC := zab (ud HOF x W i3)
  have HCD := zab (ud HOF x W.drew i3.drew)
  clear i1 i2 i3 hx
  gi_wp2
  gi_region_with_o (refine ⟨trivial, ?_⟩; gi_at_call 189; (first | refine (CallsIn.inRound l (callsIn_wide.2 (ud HC))).mono ?_ | refine (CallsIn.inRound l (callsIn_wide.2 (ud HCD))).mono ?_); rintro e w' ⟨rfl, hb'⟩; have d2 : w'.cell? ⟨w.heap.size + 1, 0, none⟩ = some (int i64 (wsum (pre.map f))) := (hb'.cell (p := ⟨w.heap.size + 1, 0, none⟩) hsz).trans c2; have e2 : w'.frozen? ⟨w.heap.size + 1, 0, none⟩ = false := zaz ((hb'.block _ hsz).trans (ud HI)) 0; have HB' := zab hb'; clear hb')
  all_goals gi_wp2
  all_goals (try go_bits)
  all_goals exact sum_round (x := x) rfl (ud HI1) (ud HI) (ud HI3) (ud HKP) ⟨(ud HB').os, (ud HB').tape, (ud HB').output, (ud HB').size, (ud HB').block⟩
 case done =>
  rintro D xs W hD hS ⟨i1, i2, i3⟩ hK
  have c2 : W.cell? ⟨w.heap.size + 1, 0, none⟩ = some (int i64 (wsum (xs.map f))) := by rw [zac i2]; rfl
  have HI3 := zab i3
  clear i1 i2 i3
  gi_wp2
  refine ⟨by simp, .inl ⟨_, _, rfl, run_takeDeferred hK, ?_⟩⟩
  exact ⟨_, results_tmp rfl _ _ _, xs, hS, rfl, zdp (ud HI3) (Nat.le_refl _) (by omega) hK _⟩
 case stop =>
  rintro D c pre W _ _ h _
  exact h.elim
end Go.Proofs.YtpbimdkclnekeaaGreat
