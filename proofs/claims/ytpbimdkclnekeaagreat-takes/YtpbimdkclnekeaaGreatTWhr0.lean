import Derived.Test.YtpbimdkclnekeaaGreatTSeq0
import Derived.Test.YtpbimdkclnekeaaGreatTKit0

namespace Go.Proofs.YtpbimdkclnekeaaGreat
open Value (int)
open IntKind (i64)
open Go.RowKit Go.Maps Go.Shelf
set_option linter.unusedVariables false
attribute [local go_sem] Oper.semAt_some
structure Lse where
 kd : Int
 s : Sg
 slot : Int
 til : Int
structure Tsk where
 rl : Bool
 s : Sg
 since : Int
 tries : Int
 rest : Int
def Tsk.jt (x : Tsk) : TypeId := if x.rl then 175 else 177
theorem grown_none {W W' : World} (h : Below W.heap.size W W') : W.grownBy W' none := ⟨h.os, h.tape, h.output, h.size, fun k hk _ => h.block k hk⟩
theorem zcr {β : Type} {B : Nat} {J : β -> World -> Prop} (h : OwnFrom B J) {s : β} {W W' : World} (hs : J s W) (hb : Below W.heap.size W W') : J s W' := h s W W' none hs (grown_none hb) (fun r e => by cases e)
theorem filter_snoc_true {α : Type} {p : α -> Bool} {l : List α} {x : α} (h : p x = true) : (l ++ [x]).filter p = l.filter p ++ [x] := by simp [h]
theorem filter_snoc_false {α : Type} {p : α -> Bool} {l : List α} {x : α} (h : p x = false) : (l ++ [x]).filter p = l.filter p := by simp [h]
theorem filter_len {α : Type} (p : α -> Bool) (l : List α) : (l.filter p).length <= l.length := List.length_filter_le _ _
theorem zdg {ex : Nat -> Prop} {n m : Nat} {A B : World} (h : KX ex n m A B) {k : Nat} {o : Obj} (hk : A.heap[k]? = some o) (hl : k < n) (hx : ¬ ex k) : B.heap[k]? = some o := (h.low hl hx (zaa hk)).trans hk
theorem zba {B : Nat} {W W' : World} (h : Below W.heap.size W W') : KeepsFrom B W W' := (zep h).from B
set_option maxRecDepth 100000 in
set_option maxHeartbeats 2000000 in
theorem where_seg (gf : Nat) (lb : Array Value) (eg : ∀ args w, (callFunc gf args).run Tryz.prog w = .ok (.enter gf args) w) (hf : Nat) (hfs hc : Array Value) (eh : ∀ args w, (callFunc hf args).run Tryz.prog w = .ok (.enter hf args) w) {ex : Nat -> Prop} {n N : Nat} {S : List SV -> Prop} (p : SV -> Bool) (Bl Bh : Nat) (w : World) (hn : n <= w.heap.size)
  (hl1 : Bl < n /\ ¬ ex Bl) (hl2 : Bh < n /\ ¬ ex Bh) (c1 : w.heap[Bl]? = some (.cells #[.func (.func gf) #[] lb] 133 (0, 0))) (c2 : w.heap[Bh]? = some (.cells #[.func (.func hf) hfs hc] 143 (0, 0)))
  (hof : ∀ (x : SV) (W : World), (∃ m, KX ex n m w W) -> Calls Tryz.prog hf (hfs ++ #[.agg #[int i64 x.st, int i64 x.cl.cnt, int i64 x.cl.sum, .int .i32 x.cl.mn, .int .i32 x.cl.mx]] ++ hc) W fun e W' => e = .returned (.bool (p x)) /\ Below W.heap.size W W')
  (hseq : SeqF ex n Tryz.prog gf lb (fun x : SV => #[.agg #[int i64 x.st, int i64 x.cl.cnt, int i64 x.cl.sum, .int .i32 x.cl.mn, .int .i32 x.cl.mx]]) S N w) :
  SeqF ex n Tryz.prog 175 #[.pointer (some ⟨Bl, 0, none⟩), .pointer (some ⟨Bh, 0, none⟩)] (fun x : SV => #[.agg #[int i64 x.st, int i64 x.cl.cnt, int i64 x.cl.sum, .int .i32 x.cl.mn, .int .i32 x.cl.mx]]) (fun ys => ∃ xs, S xs /\ ys = xs.filter p) N w := by
 intro m hm l J Jx W0 hW hm0 hJ hJx hY h0
 have d1 := (hW.block Bl (zaa c1)).trans c1
 have d2 := (hW.block Bh (zaa c2)).trans c2
 have e1 : W0.cell? ⟨Bl, 0, none⟩ = some (.func (.func gf) #[] lb) := by rw [zac d1]; rfl
 have hlt := zaa d1
 have hwz := hW.size
 have HOF := zab hof
 have HSEQ := zab hseq
 have HEG := zab eg
 have HEH := zab eh
 have HC2 := zab c2
 have HJ := zab hJ
 have HJx := zab hJx
 have HY := zab hY
 have hb1 : Below W0.heap.size W0 (W0.alloc (.cells #[.func (.yield l) #[] #[]] 143)) := (Below.refl _ _).alloc (Nat.le_refl _) _
 have hyb := zap W0 (.cells #[.func (.yield l) #[] #[]] 143)
 have hsz := zbd W0 (.cells #[.func (.yield l) #[] #[]] 143)
 have hJ1 := zcr hJ h0 hb1
 have hkx : KX ex n m w (W0.alloc (.cells #[.func (.yield l) #[] #[]] 143)) := KX.of_below (hW.trans (hb1.mono hwz))
 have hWb := hW.trans (hb1.mono hwz)
 have HB := zab hWb
 have HKX := zab hkx
 have HYB := zab hyb
 have HSZ := zab hsz
 have HJ1 := zab hJ1
 clear hof hseq eg eh hJ hJx hY h0 d1 d2 hb1 hyb hsz hJ1 hkx c2 hWb
 refine callsIn_wide.2 ((callsIn_wide (n := 7)).1 ?_)
 refine callsIn_of_wp_marks Tryz.func175 rfl trivial ?_ rfl
 simp only [Tryz.ntmps175, List.size_toArray, List.length_cons, List.length_nil, Nat.reduceAdd, Nat.reduceSub, Array.replicate_succ, Array.replicate_zero, List.push_toArray, List.append_toArray, List.nil_append, List.cons_append]
 gi_wp2
 obtain ⟨V0, hV0⟩ : ∃ V0, (W0.alloc (.cells #[.func (.yield l) #[] #[]] 143)) = V0 := ⟨_, rfl⟩
 rw [hV0] at HKX HYB HSZ HJ1 HB ⊢
 clear hV0
 have hz : V0.heap.size = W0.heap.size + 1 := ud HSZ
 refine range_O (F := Fence.wide) (n := 7) rfl (by omega) (gf := gf) (lb := lb) rfl trivial (ud HEG) (ud HSEQ (V0.heap.size + 2) (by omega)) (Nat.le_refl _) (fun h k => h.trans k) (fun W o o' h hc hw => KX.putObj o' (by omega) (by omega) h hw) (ud HB) (fun _ => rfl)
  (fun pre W => J (pre.filter p) W /\ KX ex n (V0.heap.size + 2) w W /\ W.heap[W0.heap.size]? = some (.cells #[.func (.yield l) #[] #[]] 143 (0, 0)))
  (fun c pre W => c = .ret /\ ∃ q, Jx q W)
  (fun s A B row hs hg hr => ⟨ud HJ _ A B row hs.1 hg (fun r e => ⟨by have := (hr r e).1; omega, (hr r e).2⟩), KX.own (β := Unit) (q := V0.heap.size) (by omega) () A B row hs.2.1 hg hr, zbc hs.2.2 hg (fun r e => (hr r e).2)⟩)
  (fun c s A B row hs hg hr => ⟨hs.1, by obtain ⟨q, hq⟩ := hs.2; exact ⟨q, ud HJx q A B row hq hg (fun r e => ⟨by have := (hr r e).1; omega, (hr r e).2⟩)⟩⟩)
  ⟨ud HJ1, (ud HKX).wider (by omega), ud HYB⟩
  (fun x a' W => ∃ Bx, V0.heap.size <= Bx /\ W.heap[Bx]? = some (.cells #[int i64 x.st, int i64 x.cl.cnt, int i64 x.cl.sum, .int .i32 x.cl.mn, .int .i32 x.cl.mx] 131 (0, 0)) /\ a' = { tmps := #[.func (.yield l) #[] #[], .pointer (some ⟨Bl, 0, none⟩), .pointer (some ⟨Bh, 0, none⟩), .pointer (some ⟨W0.heap.size, 0, none⟩), .pointer (some ⟨Bx, 0, none⟩), .func (.func gf) #[] lb, .agg #[int i64 x.st, int i64 x.cl.cnt, int i64 x.cl.sum, .int .i32 x.cl.mn, .int .i32 x.cl.mx], undef, undef, undef, undef, undef, undef, undef, undef, undef], defers := [] })
  (fun x a' s A B row hs hg hr => by
   obtain ⟨Bx, h1, h2, h3⟩ := hs
   exact ⟨Bx, h1, zbc h2 hg (fun r e => (hr r e).2), h3⟩) ?assign ?body ?done ?stop
 case assign =>
  rintro l' pre x W K ⟨i1, i2, i3⟩ hK
  have hbz := zaa i3
  have hnw := i2.kept.size
  have HK := zab hK
  clear hK
  gi_wp2
  have hba := (Below.refl W.heap.size W).alloc (Nat.le_refl _) (.cells #[int i64 x.st, int i64 x.cl.cnt, int i64 x.cl.sum, .int .i32 x.cl.mn, .int .i32 x.cl.mx] 131)
  refine ud HK _ _ (zba hba) (KX.of_below hba) ⟨zcr (ud HJ) i1 hba, i2.trans (KX.of_below hba), (hba.block _ hbz).trans i3⟩ ⟨W.heap.size, by omega, zap _ _, rfl⟩
 case body =>
  rintro l' pre x a' W hl ⟨r, hr⟩ ⟨i1, i2, i3⟩ ⟨Bx, hBx, hx, rfl⟩ hlen
  have hnw := i2.kept.size
  have hBz := zaa hx
  have hyz := zaa i3
  have hb2 := zdg i2 (ud HC2) hl2.1 hl2.2
  have hbz2 := zaa hb2
  have c1 : W.cell? ⟨Bh, 0, none⟩ = some (.func (.func hf) hfs hc) := by rw [zac hb2]; rfl
  have x0 : W.cell? ⟨Bx, 0, none⟩ = some (int i64 x.st) := by rw [zac hx]; rfl
  have x1 : W.cell? ⟨Bx, 1, none⟩ = some (int i64 x.cl.cnt) := by rw [zac hx]; rfl
  have x2 : W.cell? ⟨Bx, 2, none⟩ = some (int i64 x.cl.sum) := by rw [zac hx]; rfl
  have x3 : W.cell? ⟨Bx, 3, none⟩ = some (.int .i32 x.cl.mn) := by rw [zac hx]; rfl
  have x4 : W.cell? ⟨Bx, 4, none⟩ = some (.int .i32 x.cl.mx) := by rw [zac hx]; rfl
  have HC := zab (ud HOF x W ⟨_, i2⟩)
  have HI1 := zab i1
  have HI2 := zab i2
  have HI3 := zab i3
  have HX := zab hx
  have HHR := zab hr
  have hlf := filter_len p pre
  have ecall := ud HEH
  clear i1 i2 i3 hx hr hb2
  obtain ⟨bx, hbx⟩ : ∃ bx, p x = bx := ⟨_, rfl⟩
  rw [hbx] at HC
  have HPX := zab hbx
  clear hbx
  cases bx with
  | false =>
   gi_wp2
   refine ⟨trivial, (CallsIn.inRound l' (callsIn_wide.2 (ud HC))).mono ?_⟩
   rintro e W1 ⟨rfl, hb1⟩
   have HB1 := zab hb1
   clear hb1
   gi_wp2
   refine ⟨fun _ h => (by cases h), ?_⟩
   gi_wp2
   exact ⟨zba (ud HB1), KX.of_below (ud HB1), by rw [filter_snoc_false (ud HPX)]; exact zcr (ud HJ) (ud HI1) (ud HB1), (ud HI2).trans (KX.of_below (ud HB1)), ((ud HB1).block _ hyz).trans (ud HI3)⟩
  | true =>
   gi_wp2
   refine ⟨trivial, (CallsIn.inRound l' (callsIn_wide.2 (ud HC))).mono ?_⟩
   rintro e W1 ⟨rfl, hb1⟩
   have hx1 := (hb1.block _ hBz).trans (ud HX)
   have hy1 := (hb1.block _ hyz).trans (ud HI3)
   have y0 : W1.cell? ⟨W0.heap.size, 0, none⟩ = some (.func (.yield l) #[] #[]) := by rw [zac hy1]; rfl
   have z0 : W1.cell? ⟨Bx, 0, none⟩ = some (int i64 x.st) := by rw [zac hx1]; rfl
   have z1 : W1.cell? ⟨Bx, 1, none⟩ = some (int i64 x.cl.cnt) := by rw [zac hx1]; rfl
   have z2 : W1.cell? ⟨Bx, 2, none⟩ = some (int i64 x.cl.sum) := by rw [zac hx1]; rfl
   have z3 : W1.cell? ⟨Bx, 3, none⟩ = some (.int .i32 x.cl.mn) := by rw [zac hx1]; rfl
   have z4 : W1.cell? ⟨Bx, 4, none⟩ = some (.int .i32 x.cl.mx) := by rw [zac hx1]; rfl
   have HHY1 := zab hy1
   have HB1 := zab hb1
   have hJ1 := zcr (ud HJ) (ud HI1) hb1
   obtain ⟨fn, tmps, assign, body, hy, hR⟩ := yield_deep (m' := 4) rfl (ud HY (pre.filter p) x W1 hJ1 (by omega))
   have hs1 := hb1.size
   clear hb1 hx1 hy1 hJ1
   gi_wp2
   refine RoundIn.mono (F := Fence.wide.inRound l') hR ?_
   rintro e W2 (⟨rfl, hJ2, hk2⟩ | ⟨rfl, hJx2, hk2⟩)
   ·have hk12 : KX ex n (V0.heap.size + 2) W W2 := (KX.of_below (ud HB1)).trans (hk2.wider (by omega))
    have hkf : KeepsFrom V0.heap.size W W2 := (zba (ud HB1)).trans (hk2.from (by omega))
    have hy2 := hk2.high _ _ (by omega) (ud HHY1)
    have HK12 := zab hk12
    have HKF := zab hkf
    have HY2 := zab hy2
    have HJ2 := zab hJ2
    clear hk12 hkf hy2 hJ2 hk2
    gi_wp2
    exact ⟨ud HKF, ud HK12, by rw [filter_snoc_true (ud HPX)]; exact ud HJ2, (ud HI2).trans (ud HK12), ud HY2⟩
   ·have hk12 : KX ex n (V0.heap.size + 2) W W2 := (KX.of_below (ud HB1)).trans (hk2.wider (by omega))
    have hkf : KeepsFrom V0.heap.size W W2 := (zba (ud HB1)).trans (hk2.from (by omega))
    have HK12 := zab hk12
    have HKF := zab hkf
    have HJ2 := zab hJx2
    clear hk12 hkf hJx2 hk2
    gi_wp2
    exact ⟨ud HKF, ud HK12, rfl, _, ud HJ2⟩
 case done =>
  rintro D xs W hD hS ⟨i1, i2, i3⟩ hK
  have HJD := zab (OwnFrom.putObj (ud HJ) (.deferred none) i1 (by omega) hK rfl)
  clear i1 i2 i3
  gi_wp2
  refine ⟨by simp, .inl ⟨_, _, rfl, run_takeDeferred hK, ?_⟩⟩
  exact ⟨_, results_none rfl _ _ _, ⟨_, rfl⟩, .inl ⟨_, ⟨xs, hS, rfl⟩, ud HJD⟩⟩
 case stop =>
  rintro D c pre W hD hS ⟨rfl, q, hq⟩ hK
  have HJD := zab (OwnFrom.putObj (ud HJx) (.deferred none) hq (by omega) hK rfl)
  clear hq
  gi_wp2
  refine ⟨by simp, .inl ⟨_, _, rfl, run_takeDeferred hK, ?_⟩⟩
  exact ⟨_, results_none rfl _ _ _, ⟨_, rfl⟩, .inr ⟨_, trivial, ud HJD⟩⟩
set_option maxRecDepth 100000 in
set_option maxHeartbeats 2000000 in
theorem where_key {α : Type} (sg : α -> Sg) (gf : Nat) (lb : Array Value) (eg : ∀ args w, (callFunc gf args).run Tryz.prog w = .ok (.enter gf args) w) (hf : Nat) (hfs hc : Array Value) (eh : ∀ args w, (callFunc hf args).run Tryz.prog w = .ok (.enter hf args) w) {ex : Nat -> Prop} {n N : Nat} {S : List α -> Prop} (p : α -> Bool) (Bl Bh : Nat) (w : World) (hn : n <= w.heap.size)
  (hl1 : Bl < n /\ ¬ ex Bl) (hl2 : Bh < n /\ ¬ ex Bh) (c1 : w.heap[Bl]? = some (.cells #[.func (.func gf) #[] lb] 179 (0, 0))) (c2 : w.heap[Bh]? = some (.cells #[.func (.func hf) hfs hc] 226 (0, 0)))
  (hof : ∀ (x : α) (W : World), (∃ m, KX ex n m w W) -> Calls Tryz.prog hf (hfs ++ #[.agg #[int i64 (sg x).t, int i64 (sg x).ser, int i64 (sg x).win]] ++ hc) W fun e W' => e = .returned (.bool (p x)) /\ Below W.heap.size W W')
  (hseq : SeqF ex n Tryz.prog gf lb (fun x : α => #[.agg #[int i64 (sg x).t, int i64 (sg x).ser, int i64 (sg x).win]]) S N w) :
  SeqF ex n Tryz.prog 191 #[.pointer (some ⟨Bl, 0, none⟩), .pointer (some ⟨Bh, 0, none⟩)] (fun x : α => #[.agg #[int i64 (sg x).t, int i64 (sg x).ser, int i64 (sg x).win]]) (fun ys => ∃ xs, S xs /\ ys = xs.filter p) N w := by
 intro m hm l J Jx W0 hW hm0 hJ hJx hY h0
 have d1 := (hW.block Bl (zaa c1)).trans c1
 have d2 := (hW.block Bh (zaa c2)).trans c2
 have e1 : W0.cell? ⟨Bl, 0, none⟩ = some (.func (.func gf) #[] lb) := by rw [zac d1]; rfl
 have hlt := zaa d1
 have hwz := hW.size
 have HOF := zab hof
 have HSEQ := zab hseq
 have HEG := zab eg
 have HEH := zab eh
 have HC2 := zab c2
 have HJ := zab hJ
 have HJx := zab hJx
 have HY := zab hY
 have hb1 : Below W0.heap.size W0 (W0.alloc (.cells #[.func (.yield l) #[] #[]] 226)) := (Below.refl _ _).alloc (Nat.le_refl _) _
 have hyb := zap W0 (.cells #[.func (.yield l) #[] #[]] 226)
 have hsz := zbd W0 (.cells #[.func (.yield l) #[] #[]] 226)
 have hJ1 := zcr hJ h0 hb1
 have hkx : KX ex n m w (W0.alloc (.cells #[.func (.yield l) #[] #[]] 226)) := KX.of_below (hW.trans (hb1.mono hwz))
 have hWb := hW.trans (hb1.mono hwz)
 have HB := zab hWb
 have HKX := zab hkx
 have HYB := zab hyb
 have HSZ := zab hsz
 have HJ1 := zab hJ1
 clear hof hseq eg eh hJ hJx hY h0 d1 d2 hb1 hyb hsz hJ1 hkx c2 hWb
 refine callsIn_wide.2 ((callsIn_wide (n := 7)).1 ?_)
 refine callsIn_of_wp_marks Tryz.func191 rfl trivial ?_ rfl
 simp only [Tryz.ntmps191, List.size_toArray, List.length_cons, List.length_nil, Nat.reduceAdd, Nat.reduceSub, Array.replicate_succ, Array.replicate_zero, List.push_toArray, List.append_toArray, List.nil_append, List.cons_append]
 gi_wp2
 obtain ⟨V0, hV0⟩ : ∃ V0, (W0.alloc (.cells #[.func (.yield l) #[] #[]] 226)) = V0 := ⟨_, rfl⟩
 rw [hV0] at HKX HYB HSZ HJ1 HB ⊢
 clear hV0
 have hz : V0.heap.size = W0.heap.size + 1 := ud HSZ
 refine range_O (F := Fence.wide) (n := 7) rfl (by omega) (gf := gf) (lb := lb) rfl trivial (ud HEG) (ud HSEQ (V0.heap.size + 2) (by omega)) (Nat.le_refl _) (fun h k => h.trans k) (fun W o o' h hc hw => KX.putObj o' (by omega) (by omega) h hw) (ud HB) (fun _ => rfl)
  (fun pre W => J (pre.filter p) W /\ KX ex n (V0.heap.size + 2) w W /\ W.heap[W0.heap.size]? = some (.cells #[.func (.yield l) #[] #[]] 226 (0, 0)))
  (fun c pre W => c = .ret /\ ∃ q, Jx q W)
  (fun s A B row hs hg hr => ⟨ud HJ _ A B row hs.1 hg (fun r e => ⟨by have := (hr r e).1; omega, (hr r e).2⟩), KX.own (β := Unit) (q := V0.heap.size) (by omega) () A B row hs.2.1 hg hr, zbc hs.2.2 hg (fun r e => (hr r e).2)⟩)
  (fun c s A B row hs hg hr => ⟨hs.1, by obtain ⟨q, hq⟩ := hs.2; exact ⟨q, ud HJx q A B row hq hg (fun r e => ⟨by have := (hr r e).1; omega, (hr r e).2⟩)⟩⟩)
  ⟨ud HJ1, (ud HKX).wider (by omega), ud HYB⟩
  (fun x a' W => ∃ Bx, V0.heap.size <= Bx /\ W.heap[Bx]? = some (.cells #[int i64 (sg x).t, int i64 (sg x).ser, int i64 (sg x).win] 137 (0, 0)) /\ a' = { tmps := #[.func (.yield l) #[] #[], .pointer (some ⟨Bl, 0, none⟩), .pointer (some ⟨Bh, 0, none⟩), .pointer (some ⟨W0.heap.size, 0, none⟩), .pointer (some ⟨Bx, 0, none⟩), .func (.func gf) #[] lb, .agg #[int i64 (sg x).t, int i64 (sg x).ser, int i64 (sg x).win], undef, undef, undef, undef, undef, undef, undef, undef, undef], defers := [] })
  (fun x a' s A B row hs hg hr => by
   obtain ⟨Bx, h1, h2, h3⟩ := hs
   exact ⟨Bx, h1, zbc h2 hg (fun r e => (hr r e).2), h3⟩) ?assign ?body ?done ?stop
 case assign =>
  rintro l' pre x W K ⟨i1, i2, i3⟩ hK
  have hbz := zaa i3
  have hnw := i2.kept.size
  have HK := zab hK
  clear hK
  gi_wp2
  have hba := (Below.refl W.heap.size W).alloc (Nat.le_refl _) (.cells #[int i64 (sg x).t, int i64 (sg x).ser, int i64 (sg x).win] 137)
  refine ud HK _ _ (zba hba) (KX.of_below hba) ⟨zcr (ud HJ) i1 hba, i2.trans (KX.of_below hba), (hba.block _ hbz).trans i3⟩ ⟨W.heap.size, by omega, zap _ _, rfl⟩
 case body =>
  rintro l' pre x a' W hl ⟨r, hr⟩ ⟨i1, i2, i3⟩ ⟨Bx, hBx, hx, rfl⟩ hlen
  have hnw := i2.kept.size
  have hBz := zaa hx
  have hyz := zaa i3
  have hb2 := zdg i2 (ud HC2) hl2.1 hl2.2
  have hbz2 := zaa hb2
  have c1 : W.cell? ⟨Bh, 0, none⟩ = some (.func (.func hf) hfs hc) := by rw [zac hb2]; rfl
  have x0 : W.cell? ⟨Bx, 0, none⟩ = some (int i64 (sg x).t) := by rw [zac hx]; rfl
  have x1 : W.cell? ⟨Bx, 1, none⟩ = some (int i64 (sg x).ser) := by rw [zac hx]; rfl
  have x2 : W.cell? ⟨Bx, 2, none⟩ = some (int i64 (sg x).win) := by rw [zac hx]; rfl
  have HC := zab (ud HOF x W ⟨_, i2⟩)
  have HI1 := zab i1
  have HI2 := zab i2
  have HI3 := zab i3
  have HX := zab hx
  have HHR := zab hr
  have hlf := filter_len p pre
  have ecall := ud HEH
  clear i1 i2 i3 hx hr hb2
  obtain ⟨bx, hbx⟩ : ∃ bx, p x = bx := ⟨_, rfl⟩
  rw [hbx] at HC
  have HPX := zab hbx
  clear hbx
  cases bx with
  | false =>
   gi_wp2
   refine ⟨trivial, (CallsIn.inRound l' (callsIn_wide.2 (ud HC))).mono ?_⟩
   rintro e W1 ⟨rfl, hb1⟩
   have HB1 := zab hb1
   clear hb1
   gi_wp2
   refine ⟨fun _ h => (by cases h), ?_⟩
   gi_wp2
   exact ⟨zba (ud HB1), KX.of_below (ud HB1), by rw [filter_snoc_false (ud HPX)]; exact zcr (ud HJ) (ud HI1) (ud HB1), (ud HI2).trans (KX.of_below (ud HB1)), ((ud HB1).block _ hyz).trans (ud HI3)⟩
  | true =>
   gi_wp2
   refine ⟨trivial, (CallsIn.inRound l' (callsIn_wide.2 (ud HC))).mono ?_⟩
   rintro e W1 ⟨rfl, hb1⟩
   have hx1 := (hb1.block _ hBz).trans (ud HX)
   have hy1 := (hb1.block _ hyz).trans (ud HI3)
   have y0 : W1.cell? ⟨W0.heap.size, 0, none⟩ = some (.func (.yield l) #[] #[]) := by rw [zac hy1]; rfl
   have z0 : W1.cell? ⟨Bx, 0, none⟩ = some (int i64 (sg x).t) := by rw [zac hx1]; rfl
   have z1 : W1.cell? ⟨Bx, 1, none⟩ = some (int i64 (sg x).ser) := by rw [zac hx1]; rfl
   have z2 : W1.cell? ⟨Bx, 2, none⟩ = some (int i64 (sg x).win) := by rw [zac hx1]; rfl
   have HHY1 := zab hy1
   have HB1 := zab hb1
   have hJ1 := zcr (ud HJ) (ud HI1) hb1
   obtain ⟨fn, tmps, assign, body, hy, hR⟩ := yield_deep (m' := 4) rfl (ud HY (pre.filter p) x W1 hJ1 (by omega))
   have hs1 := hb1.size
   clear hb1 hx1 hy1 hJ1
   gi_wp2
   refine RoundIn.mono (F := Fence.wide.inRound l') hR ?_
   rintro e W2 (⟨rfl, hJ2, hk2⟩ | ⟨rfl, hJx2, hk2⟩)
   ·have hk12 : KX ex n (V0.heap.size + 2) W W2 := (KX.of_below (ud HB1)).trans (hk2.wider (by omega))
    have hkf : KeepsFrom V0.heap.size W W2 := (zba (ud HB1)).trans (hk2.from (by omega))
    have hy2 := hk2.high _ _ (by omega) (ud HHY1)
    have HK12 := zab hk12
    have HKF := zab hkf
    have HY2 := zab hy2
    have HJ2 := zab hJ2
    clear hk12 hkf hy2 hJ2 hk2
    gi_wp2
    exact ⟨ud HKF, ud HK12, by rw [filter_snoc_true (ud HPX)]; exact ud HJ2, (ud HI2).trans (ud HK12), ud HY2⟩
   ·have hk12 : KX ex n (V0.heap.size + 2) W W2 := (KX.of_below (ud HB1)).trans (hk2.wider (by omega))
    have hkf : KeepsFrom V0.heap.size W W2 := (zba (ud HB1)).trans (hk2.from (by omega))
    have HK12 := zab hk12
    have HKF := zab hkf
    have HJ2 := zab hJx2
    clear hk12 hkf hJx2 hk2
    gi_wp2
    exact ⟨ud HKF, ud HK12, rfl, _, ud HJ2⟩
 case done =>
  rintro D xs W hD hS ⟨i1, i2, i3⟩ hK
  have HJD := zab (OwnFrom.putObj (ud HJ) (.deferred none) i1 (by omega) hK rfl)
  clear i1 i2 i3
  gi_wp2
  refine ⟨by simp, .inl ⟨_, _, rfl, run_takeDeferred hK, ?_⟩⟩
  exact ⟨_, results_none rfl _ _ _, ⟨_, rfl⟩, .inl ⟨_, ⟨xs, hS, rfl⟩, ud HJD⟩⟩
 case stop =>
  rintro D c pre W hD hS ⟨rfl, q, hq⟩ hK
  have HJD := zab (OwnFrom.putObj (ud HJx) (.deferred none) hq (by omega) hK rfl)
  clear hq
  gi_wp2
  refine ⟨by simp, .inl ⟨_, _, rfl, run_takeDeferred hK, ?_⟩⟩
  exact ⟨_, results_none rfl _ _ _, ⟨_, rfl⟩, .inr ⟨_, trivial, ud HJD⟩⟩
end Go.Proofs.YtpbimdkclnekeaaGreat

namespace Go.Proofs.YtpbimdkclnekeaaGreat
open Value (int)
open IntKind (i64)
open Go.RowKit Go.Maps
set_option linter.unusedVariables false
structure Jk where
 kd : Int
 s : Sg
deriving DecidableEq
structure Tok where
 ep : Int
 num : Int
deriving DecidableEq
def Jk.wf (k : Jk) : Prop := i64B k.kd /\ k.s.wf
def Tok.wf (k : Tok) : Prop := i64B k.ep /\ i64B k.num
def jkVal (k : Jk) : Value := .agg #[int i64 k.kd, int i64 k.s.t, int i64 k.s.ser, int i64 k.s.win]
def tokVal (k : Tok) : Value := .agg #[int i64 k.ep, int i64 k.num]
def lseVal (x : Lse) : Value := .agg #[int i64 x.kd, int i64 x.s.t, int i64 x.s.ser, int i64 x.s.win, int i64 x.slot, int i64 x.til]
def tskVal (x : Tsk) : Value := .agg #[.iface x.jt (.agg #[int i64 x.s.t, int i64 x.s.ser, int i64 x.s.win]), int i64 x.since, int i64 x.tries, int i64 x.rest]
theorem jkRow : (147 : TypeId) < Tryz.prog.types.size := of_decide_eq_true (by kernel_rfl)
theorem jkLaw : Keyed Tryz.prog 147 := Keyed.of_law (deep_law_laid Tryz.laidOut (m := 3) (Nat.le_of_ble_eq_true rfl) jkRow (by kernel_rfl) (by kernel_rfl))
theorem tokRow : (49 : TypeId) < Tryz.prog.types.size := of_decide_eq_true (by kernel_rfl)
theorem tokLaw : Keyed Tryz.prog 49 := Keyed.of_law (deep_law_laid Tryz.laidOut (m := 2) (Nat.le_of_ble_eq_true rfl) tokRow (by kernel_rfl) (by kernel_rfl))
theorem jk_cells : Tryz.prog.cellsOf 147 = 4 := by kernel_rfl
theorem tok_cells : Tryz.prog.cellsOf 49 = 2 := by kernel_rfl
theorem jk_type : Tryz.prog.keyType 147 = true := by kernel_rfl
theorem tok_type : Tryz.prog.keyType 49 = true := by kernel_rfl
theorem jk_inj {a b : Jk} (h : jkVal a = jkVal b) : a = b := by
 unfold jkVal at h
 injection h with h
 injection h with h
 injection h with h0 h
 injection h with h1 h
 injection h with h2 h
 injection h with h3 h
 injection h0 with _ h0
 injection h1 with _ h1
 injection h2 with _ h2
 injection h3 with _ h3
 obtain ⟨_, _, _, _⟩ := a; obtain ⟨_, _, _, _⟩ := b; simp at *; exact ⟨h0, h1, h2, h3⟩
theorem tok_inj {a b : Tok} (h : tokVal a = tokVal b) : a = b := by
 unfold tokVal at h
 injection h with h
 injection h with h
 injection h with h0 h
 injection h with h1 h
 injection h0 with _ h0
 injection h1 with _ h1
 cases a; cases b; simp at *; exact ⟨h0, h1⟩
theorem key_size2 : ∃ m, Tryz.prog.types.size = m + 2 := by
 have h : 1 < Tryz.prog.types.size := of_decide_eq_true (by kernel_rfl)
 exact ⟨Tryz.prog.types.size - 2, by omega⟩
theorem jk_key {k : Jk} (h : k.wf) : ∃ kl, keyOf Tryz.prog 147 (jkVal k) = some kl := by
 obtain ⟨m, hm⟩ := key_size2
 obtain ⟨h0, h1, h2, h3⟩ := h
 have hf : (jkVal k).formed Tryz.prog 147 = true := by
  simp [Value.formed, jkVal, Tryz.underlying147, jk_cells]
 unfold keyOf
 simp only [Tryz.underlying147, jk_type, hf, Bool.and_self, if_true]
 have : ∃ ls, Tryz.prog.keyLits (Tryz.prog.types.size + 1) 147 (jkVal k).cells.toList = some ls := by
  rw [hm]
  simp [Program.keyLits, Tryz.underlying147, Tryz.underlying137, Tryz.underlying3, jkVal, Value.cells, jk_cells, key_cells, int_cells, wf64 h0, wf64 h1, wf64 h2, wf64 h3]
  rw [if_pos (fun i hi => by match i, hi with | 0, _ => simp | 1, _ => simp | 2, _ => simp)]
  exact ⟨_, rfl⟩
 obtain ⟨ls, hls⟩ := this
 exact ⟨_, by rw [hls]; rfl⟩
theorem tok_key {k : Tok} (h : k.wf) : ∃ kl, keyOf Tryz.prog 49 (tokVal k) = some kl := by
 obtain ⟨m, hm⟩ := key_size2
 obtain ⟨h0, h1⟩ := h
 have hf : (tokVal k).formed Tryz.prog 49 = true := by
  simp [Value.formed, tokVal, Tryz.underlying49, tok_cells]
 unfold keyOf
 simp only [Tryz.underlying49, tok_type, hf, Bool.and_self, if_true]
 have : ∃ ls, Tryz.prog.keyLits (Tryz.prog.types.size + 1) 49 (tokVal k).cells.toList = some ls := by
  rw [hm]
  simp [Program.keyLits, Tryz.underlying49, Tryz.underlying3, tokVal, Value.cells, tok_cells, int_cells, wf64 h0, wf64 h1]
 obtain ⟨ls, hls⟩ := this
 exact ⟨_, by rw [hls]; rfl⟩
noncomputable def goneM : MK Sg Unit := { P := Tryz.prog, T := 138, K := 137, E := 221, ke := sgVal, ve := fun _ => .agg #[], wf := Sg.wf, z := .agg #[] }
noncomputable def tasksM : MK Jk Tsk := { P := Tryz.prog, T := 154, K := 147, E := 162, ke := jkVal, ve := tskVal, wf := Jk.wf, z := .agg #[.nilIface, int i64 0, int i64 0, int i64 0] }
noncomputable def zfh : MK Tok Lse := { P := Tryz.prog, T := 153, K := 49, E := 149, ke := tokVal, ve := lseVal, wf := Tok.wf, z := .agg #[int i64 0, int i64 0, int i64 0, int i64 0, int i64 0, int i64 0] }
theorem gone_ok : goneM.Ok := ⟨keyLaw, Tryz.underlying138, fun a h => sg_key h, fun a b h => sg_inj h, fun w => by kernel_rfl⟩
theorem tasks_ok : tasksM.Ok := ⟨jkLaw, Tryz.underlying154, fun a h => jk_key h, fun a b h => jk_inj h, fun w => by kernel_rfl⟩
theorem leases_ok : zfh.Ok := ⟨tokLaw, Tryz.underlying153, fun a h => tok_key h, fun a b h => tok_inj h, fun w => by kernel_rfl⟩
end Go.Proofs.YtpbimdkclnekeaaGreat

namespace Go.Proofs.YtpbimdkclnekeaaGreat
open Value (int)
open IntKind (i64)
open Go.RowKit Go.Maps Go.Shelf
set_option linter.unusedVariables false
attribute [local go_sem] Oper.semAt_some
theorem sum_roundX {α : Type} {ex : Nat -> Prop} {n : Nat} {w W w' : World} {f : α -> Int} {pre : List α} {x : α} {v : Value} {t t2 : TypeId} {B : Nat} {u : Value} (hu : u = int i64 (wrap64 (wsum (pre.map f) + f x))) (hn : n <= w.heap.size)
  (i1 : W.heap[w.heap.size]? = some (.cells #[v] t (0, 0))) (i2 : W.heap[w.heap.size + 1]? = some (.cells #[int i64 (wsum (pre.map f))] t2 (0, 0))) (i3 : Below w.heap.size w W) (hb : Below W.heap.size W w') :
  KeepsFrom B W (w'.setCell ⟨w.heap.size + 1, 0, none⟩ u) /\ KX ex n (w.heap.size + 4) W (w'.setCell ⟨w.heap.size + 1, 0, none⟩ u) /\ ((w'.setCell ⟨w.heap.size + 1, 0, none⟩ u).heap[w.heap.size]? = some (.cells #[v] t (0, 0)) /\ (w'.setCell ⟨w.heap.size + 1, 0, none⟩ u).heap[w.heap.size + 1]? = some (.cells #[int i64 (wsum ((pre ++ [x]).map f))] t2 (0, 0)) /\ Below w.heap.size w (w'.setCell ⟨w.heap.size + 1, 0, none⟩ u)) := by
 subst hu
 have hz1 := zaa i1
 have hz2 := zaa i2
 refine ⟨((zep hb).trans (KeepsOthers.setCell _ _ _)).from _, (KX.of_below hb).trans (KX.setCell (by omega) (by omega)), ?_, ?_, i3.trans ((hb.mono i3.size).setCell (p := ⟨w.heap.size + 1, 0, none⟩) (Nat.le_succ _) _)⟩
 ·have h1 := (hb.block _ hz1).trans i1
  exact (((Below.refl (w.heap.size + 1) w').setCell (p := ⟨w.heap.size + 1, 0, none⟩) (Nat.le_refl _) (int i64 (wrap64 (wsum (pre.map f) + f x)))).block w.heap.size (Nat.lt_succ_self _)).trans h1
 ·have h2 := (hb.block _ hz2).trans i2
  rw [List.map_append, List.map_singleton, wsum_snoc]
  exact zbz (i := 0) h2 _
theorem SeqF.later {α : Type} {ex : Nat -> Prop} {n N : Nat} {P : Program} {g : Nat} {lb : Array Value} {encs : α -> Array Value} {S : List α -> Prop} {w w' : World} (h : SeqF ex n P g lb encs S N w) (hb : Below w.heap.size w w') : SeqF ex n P g lb encs S N w' :=
 fun m hm l J Jx W hW => h m (Nat.le_trans hb.size hm) l J Jx W (hb.trans (hW.mono hb.size))
theorem KX.lower {ex : Nat -> Prop} {n n' m : Nat} {A B : World} (h : KX ex n' m A B) (hn : n <= n') : KX ex n m A B := ⟨h.kept.mono (fun k _ e => e.imp id (fun e => by omega)), h.walk, h.high⟩
theorem SeqF.lower {α : Type} {ex : Nat -> Prop} {n n' N : Nat} {P : Program} {g : Nat} {lb : Array Value} {encs : α -> Array Value} {S : List α -> Prop} {w : World} (h : SeqF ex n P g lb encs S N w) (hn : n <= n') : SeqF ex n' P g lb encs S N w :=
 fun m hm => (h m hm).keeps (fun A B hk => hk.lower hn)
theorem SeqF.free {α : Type} {ex : Nat -> Prop} {n N : Nat} {P : Program} {g : Nat} {lb : Array Value} {encs : α -> Array Value} {S : List α -> Prop} {w : World} (h : SeqF ex n P g lb encs S N w) : SeqF (fun _ => False) n P g lb encs S N w :=
 fun m hm => (h m hm).keeps (fun A B hk => ⟨hk.kept.mono (fun k _ e => e.elim (fun e => e.elim) .inr), fun k o _ => hk.walk k o (fun e => e), hk.high⟩)
theorem wsum_ones {α : Type} (xs : List α) (h : xs.length <= 9223372036854775807) : wsum (xs.map (fun _ => (1 : Int))) = xs.length := by
 have e : zcx (xs.map (fun _ => (1 : Int))) = xs.length := by
  induction xs with
  | nil => rfl
  | cons x xs ih => simp only [List.map_cons, zcx, List.length_cons] at *; rw [ih (by omega)]; omega
 rw [wsum_small (by rw [e]; omega), e]
set_option maxRecDepth 100000 in
set_option maxHeartbeats 2000000 in
theorem sumX_use (gf : Nat) (lb : Array Value) (eg : ∀ args w, (callFunc gf args).run Tryz.prog w = .ok (.enter gf args) w) {ex : Nat -> Prop} {n N : Nat} {S : List SV -> Prop} (f : SV -> Int) (w : World) (hn : n <= w.heap.size)
  (hof : ∀ (x : SV) (W : World), Below w.heap.size w W -> Calls Tryz.prog 72 #[.agg #[int i64 x.st, int i64 x.cl.cnt, int i64 x.cl.sum, .int .i32 x.cl.mn, .int .i32 x.cl.mx]] W fun e W' => e = .returned (int i64 (f x)) /\ Below W.heap.size W W')
  (hseq : SeqF ex n Tryz.prog gf lb (fun x : SV => #[.agg #[int i64 x.st, int i64 x.cl.cnt, int i64 x.cl.sum, .int .i32 x.cl.mn, .int .i32 x.cl.mx]]) S N w) :
  Calls Tryz.prog 70 #[.func (.func gf) #[] lb, .func (.func 72) #[] #[]] w fun e w' => ∃ xs, S xs /\ e = .returned (int i64 (wsum (xs.map f))) /\ Below w.heap.size w w' := by
 have HOF := zab hof
 have HSEQ := zab hseq
 have HEG := zab eg
 obtain ⟨b1, b2, hbw, bz⟩ := box2 w (.cells #[.func (.func 72) #[] #[]] 141) (.cells #[int i64 0] 3)
 clear hof hseq eg
 refine (callsIn_wide (n := 7)).1 ?_
 refine callsIn_of_wp_marks Tryz.func70 rfl trivial ?_ rfl
 simp only [Tryz.ntmps70, List.size_toArray, List.length_cons, List.length_nil, Nat.reduceAdd, Nat.reduceSub, Array.replicate_succ, Array.replicate_zero, List.push_toArray, List.append_toArray, List.nil_append, List.cons_append]
 have B1 := zab b1
 have B2 := zab b2
 have HBW := zab hbw
 have BZ := zab bz
 clear b1 b2 hbw bz
 gi_wp2
 obtain ⟨W0, hW0⟩ : ∃ W0, ((w.alloc (.cells #[.func (.func 72) #[] #[]] 141)).alloc (.cells #[int i64 0] 3)) = W0 := ⟨_, rfl⟩
 rw [hW0] at B1 B2 HBW BZ ⊢
 clear hW0
 have hz : W0.heap.size = w.heap.size + 2 := ud BZ
 refine range_O (F := Fence.wide) (n := 7) rfl (by omega) (gf := gf) (lb := lb) rfl trivial (ud HEG) (ud HSEQ (w.heap.size + 4) (by omega)) (by omega) (fun h k => h.trans k) (fun W o o' h hc hw => KX.putObj o' (by omega) (by omega) h hw) (ud HBW) (fun _ => rfl)
  (fun pre W => W.heap[w.heap.size]? = some (.cells #[.func (.func 72) #[] #[]] 141 (0, 0)) /\ W.heap[w.heap.size + 1]? = some (.cells #[int i64 (wsum (pre.map f))] 3 (0, 0)) /\ Below w.heap.size w W)
  (fun _ _ _ => False)
  (fun s A B row hs hg hr => ⟨zbc hs.1 hg (fun r e => (hr r e).2), zbc hs.2.1 hg (fun r e => (hr r e).2), hs.2.2.grown hg (hs.2.2.size) (fun k e => by have := (hr k e).1; omega)⟩)
  (fun _ _ _ _ _ hs _ _ => hs)
  ⟨ud B1, ud B2, ud HBW⟩
  (fun x a' W => ∃ Bx, w.heap.size + 2 <= Bx /\ W.heap[Bx]? = some (.cells #[int i64 x.st, int i64 x.cl.cnt, int i64 x.cl.sum, .int .i32 x.cl.mn, .int .i32 x.cl.mx] 131 (0, 0)) /\ a' = { tmps := #[.func (.func gf) #[] lb, .func (.func 72) #[] #[], undef, .pointer (some ⟨w.heap.size, 0, none⟩), int i64 0, .pointer (some ⟨w.heap.size + 1, 0, none⟩), .pointer (some ⟨Bx, 0, none⟩), .func (.func gf) #[] lb, .agg #[int i64 x.st, int i64 x.cl.cnt, int i64 x.cl.sum, .int .i32 x.cl.mn, .int .i32 x.cl.mx], undef, undef, undef, undef, undef, undef], defers := [] })
  (fun x a' s A B row hs hg hr => by
   obtain ⟨Bx, h1, h2, h3⟩ := hs
   exact ⟨Bx, h1, zbc h2 hg (fun r e => (hr r e).2), h3⟩) ?assign ?body ?done ?stop
 case assign =>
  rintro l pre x W K ⟨i1, i2, i3⟩ hK
  have hwz := i3.size
  have hbz := zaa i2
  have HK := zab hK
  clear hK
  gi_wp2
  have hba := (Below.refl W.heap.size W).alloc (Nat.le_refl _) (.cells #[int i64 x.st, int i64 x.cl.cnt, int i64 x.cl.sum, .int .i32 x.cl.mn, .int .i32 x.cl.mx] 131)
  refine ud HK _ _ (zba hba) (KX.of_below hba) ⟨(Below.heap_alloc _ _ _ (by omega)).trans i1, (Below.heap_alloc _ _ _ (by omega)).trans i2, i3.alloc hwz _⟩ ⟨W.heap.size, by omega, zap _ _, rfl⟩
 case body =>
  rintro l pre x a' W hl ⟨r, hr⟩ ⟨i1, i2, i3⟩ ⟨Bx, hBx, hx, rfl⟩ hlt
  have hwz := i3.size
  have hBz := zaa hx
  have hsz := zaa i2
  have c1 : W.cell? ⟨w.heap.size, 0, none⟩ = some (.func (.func 72) #[] #[]) := by rw [zac i1]; rfl
  have c2 : W.cell? ⟨w.heap.size + 1, 0, none⟩ = some (int i64 (wsum (pre.map f))) := by rw [zac i2]; rfl
  have f2 : W.frozen? ⟨w.heap.size + 1, 0, none⟩ = false := zaz i2 0
  have x0 : W.cell? ⟨Bx, 0, none⟩ = some (int i64 x.st) := by rw [zac hx]; rfl
  have x1 : W.cell? ⟨Bx, 1, none⟩ = some (int i64 x.cl.cnt) := by rw [zac hx]; rfl
  have x2 : W.cell? ⟨Bx, 2, none⟩ = some (int i64 x.cl.sum) := by rw [zac hx]; rfl
  have x3 : W.cell? ⟨Bx, 3, none⟩ = some (.int .i32 x.cl.mn) := by rw [zac hx]; rfl
  have x4 : W.cell? ⟨Bx, 4, none⟩ = some (.int .i32 x.cl.mx) := by rw [zac hx]; rfl
  have HI := zab i2
  have HI1 := zab i1
  have HI3 := zab i3
  have HX := zab hx
  have hmx : Tryz.prog.follows .mixedOrders = true := by kernel_rfl
  have HC := zab (ud HOF x W i3)
  have HCD := zab (ud HOF x W.drew i3.drew)
  clear i1 i2 i3 hx
  gi_wp2
  gi_region_with_o (refine ⟨trivial, ?_⟩; gi_at_call 72; (first | refine (CallsIn.inRound l (callsIn_wide.2 (ud HC))).mono ?_ | refine (CallsIn.inRound l (callsIn_wide.2 (ud HCD))).mono ?_); rintro e w' ⟨rfl, hb'⟩; have d2 : w'.cell? ⟨w.heap.size + 1, 0, none⟩ = some (int i64 (wsum (pre.map f))) := (hb'.cell (p := ⟨w.heap.size + 1, 0, none⟩) hsz).trans c2; have e2 : w'.frozen? ⟨w.heap.size + 1, 0, none⟩ = false := zaz ((hb'.block _ hsz).trans (ud HI)) 0; have HB' := zab hb'; clear hb')
  all_goals gi_wp2
  all_goals (try go_bits)
  all_goals (first | (rw [hz]; exact sum_roundX (x := x) rfl hn (ud HI1) (ud HI) (ud HI3) ⟨(ud HB').os, (ud HB').tape, (ud HB').output, (ud HB').size, (ud HB').block⟩) | exact sum_roundX (x := x) rfl hn (ud HI1) (ud HI) (ud HI3) ⟨(ud HB').os, (ud HB').tape, (ud HB').output, (ud HB').size, (ud HB').block⟩)
 case done =>
  rintro D xs W hD hS ⟨i1, i2, i3⟩ hK
  have c2 : W.cell? ⟨w.heap.size + 1, 0, none⟩ = some (int i64 (wsum (xs.map f))) := by rw [zac i2]; rfl
  have HI3 := zab i3
  clear i1 i2 i3
  gi_wp2
  refine ⟨by simp, .inl ⟨_, _, rfl, run_takeDeferred hK, ?_⟩⟩
  exact ⟨_, results_tmp rfl _ _ _, xs, hS, rfl, zdp (ud HI3) (Nat.le_refl _) (by omega) hK _⟩
 case stop =>
  rintro D c pre W _ _ h _
  exact h.elim
end Go.Proofs.YtpbimdkclnekeaaGreat

namespace Go.Proofs.YtpbimdkclnekeaaGreat
open Go.RowKit Go.Maps Go.Shelf
open Go.ChangeMaps (setBlock)
set_option linter.unusedVariables false
noncomputable def liveM : MK Sg SV := { P := Tryz.prog, T := 135, K := 137, E := 131, ke := sgVal, ve := svVal, wf := Sg.wf, z := svVal ⟨0, zds⟩ }
theorem live_ok : liveM.Ok := ⟨keyLaw, Tryz.underlying135, fun a h => sg_key h, fun a b h => sg_inj h, fun w => by kernel_rfl⟩
theorem live_map {w : World} {b : Nat} {L : LV} : zeu w b L ↔ zce liveM w b L :=
 ⟨fun ⟨es, cl, h, e⟩ => ⟨es, cl, h, ⟨e.kv, e.born, e.once, e.wf, e.nodup, e.size⟩⟩, fun ⟨es, cl, h, e⟩ => ⟨es, cl, h, ⟨e.kv, e.born, e.once, e.wf, e.nodup, e.size⟩⟩⟩
section
variable {α β : Type} [Inhabited α] [Inhabited β] {M : MK α β}
noncomputable def decE (M : MK α β) (L : List (α × β)) (e : MapEntry) : α × β := by
 classical exact if h : ∃ p ∈ L, e.key = M.ke p.1 /\ e.val = M.ve p.2 then h.choose else default
theorem dec_eq (ok : M.Ok) {L : List (α × β)} (hn : (zaj L).Nodup) {e : MapEntry} {p : α × β} (hp : p ∈ L) (h1 : e.key = M.ke p.1) (h2 : e.val = M.ve p.2) : decE M L e = p := by
 unfold decE
 have h : ∃ p ∈ L, e.key = M.ke p.1 /\ e.val = M.ve p.2 := ⟨p, hp, h1, h2⟩
 rw [dif_pos h]
 obtain ⟨hm, hk, _⟩ := h.choose_spec
 have e1 : h.choose.1 = p.1 := ok.inj _ _ (hk.symm.trans h1)
 have hpw : L.Pairwise (fun a b => a.1 ≠ b.1) := List.pairwise_map.1 hn
 obtain ⟨i, hi, ei⟩ := List.getElem_of_mem hm
 obtain ⟨j, hj, ej⟩ := List.getElem_of_mem hp
 rcases Nat.lt_trichotomy i j with h3 | h3 | h3
 ·have := List.pairwise_iff_getElem.1 hpw i j hi hj h3; rw [ei, ej] at this; exact absurd e1 this
 ·subst h3; rw [<- ei, ej]
 ·have := List.pairwise_iff_getElem.1 hpw j i hj hi h3; rw [ei, ej] at this; exact absurd e1.symm this
theorem dec_at (ok : M.Ok) {es : Array MapEntry} {clock : Nat} {L : List (α × β)} (he : MEnts M es clock L) {e : MapEntry} (h : e ∈ es.toList) : decE M L e ∈ L /\ e.key = M.ke (decE M L e).1 /\ e.val = M.ve (decE M L e).2 := by
 obtain ⟨i, hi⟩ := List.mem_iff_getElem?.1 h
 obtain ⟨p, hp, h1, h2⟩ := he.at hi
 have hpm := List.mem_of_getElem? hp
 rw [dec_eq ok he.nodup hpm h1 h2]
 exact ⟨hpm, h1, h2⟩
theorem dec_map (ok : M.Ok) {es : Array MapEntry} {clock : Nat} {L : List (α × β)} (he : MEnts M es clock L) : es.toList.map (decE M L) = L := by
 apply List.ext_getElem?
 intro i
 rw [List.getElem?_map]
 cases h : es.toList[i]? with
 | none =>
  have h1 : es.toList.length <= i := List.getElem?_eq_none_iff.1 h
  have h2 := he.count
  rw [List.getElem?_eq_none (by simp at h1; omega)]; rfl
 | some e =>
  obtain ⟨p, hp, h1, h2⟩ := he.at h
  rw [hp, Option.map_some, dec_eq ok he.nodup (List.mem_of_getElem? hp) h1 h2]
theorem dec_perm (ok : M.Ok) {es : Array MapEntry} {clock : Nat} {L : List (α × β)} (he : MEnts M es clock L) {ps : List MapEntry} (hp : ps.Perm es.toList) : (ps.map (decE M L)).Perm L := by
 have := hp.map (decE M L)
 rwa [dec_map ok he] at this
end
instance : Inhabited SV := ⟨⟨0, zds⟩⟩
instance : Inhabited Lse := ⟨⟨0, ⟨0, 0, 0⟩, 0, 0⟩⟩
instance : Inhabited Tsk := ⟨⟨true, ⟨0, 0, 0⟩, 0, 0, 0⟩⟩
instance : Inhabited Jk := ⟨⟨0, ⟨0, 0, 0⟩⟩⟩
instance : Inhabited Tok := ⟨⟨0, 0⟩⟩
instance : Inhabited Sg := ⟨⟨0, 0, 0⟩⟩
end Go.Proofs.YtpbimdkclnekeaaGreat
