import Derived.Test.YtpbimdkclnekeaaGreatQMap0
import Derived.Test.YtpbimdkclnekeaaGreatQKit0

namespace Go.Proofs.YtpbimdkclnekeaaGreat
open Go.RowKit Go.Maps Go.Shelf
set_option linter.unusedVariables false
attribute [local go_sem] Oper.semAt_some

/-- a lease; a task. -/
structure Lse where
  kd : Int
  s : Sg
  slot : Int
  til : Int
structure Tsk where
  rl : Bool
  s : Sg
  since : Int
  tries : Int
  rest : Int
/-- the type of a task's job. -/
def Tsk.jt (x : Tsk) : TypeId := if x.rl then 175 else 177

theorem grown_none {W W' : World} (h : Below W.heap.size W W') : W.grownBy W' none := ⟨h.os, h.tape, h.output, h.size, fun k hk _ => h.block k hk⟩
theorem own_below {β : Type} {B : Nat} {J : β → World → Prop} (h : OwnFrom B J) {s : β} {W W' : World} (hs : J s W) (hb : Below W.heap.size W W') : J s W' := h s W W' none hs (grown_none hb) (fun r e => by cases e)
theorem filter_snoc_true {α : Type} {p : α → Bool} {l : List α} {x : α} (h : p x = true) : (l ++ [x]).filter p = l.filter p ++ [x] := by simp [h]
theorem filter_snoc_false {α : Type} {p : α → Bool} {l : List α} {x : α} (h : p x = false) : (l ++ [x]).filter p = l.filter p := by simp [h]
theorem filter_len {α : Type} (p : α → Bool) (l : List α) : (l.filter p).length ≤ l.length := List.length_filter_le _ _
theorem kx_heap {ex : Nat → Prop} {n m : Nat} {A B : World} (h : KX ex n m A B) {k : Nat} {o : Obj} (hk : A.heap[k]? = some o) (hl : k < n) (hx : ¬ ex k) : B.heap[k]? = some o := (h.low hl hx (lt_of_heap hk)).trans hk
theorem keepsFrom_below {B : Nat} {W W' : World} (h : Below W.heap.size W W') : KeepsFrom B W W' := (keeps_below h).from B
set_option maxRecDepth 100000 in
set_option maxHeartbeats 2000000 in
theorem where_seg (gf : Nat) (lb : Array Value) (eg : ∀ args w, (callFunc gf args).run Tryz.prog w = .ok (.enter gf args) w) (hf : Nat) (hfs hc : Array Value) (eh : ∀ args w, (callFunc hf args).run Tryz.prog w = .ok (.enter hf args) w) {ex : Nat → Prop} {n N : Nat} {S : List SV → Prop} (p : SV → Bool) (Bl Bh : Nat) (w : World) (hn : n ≤ w.heap.size)
    (hl1 : Bl < n ∧ ¬ ex Bl) (hl2 : Bh < n ∧ ¬ ex Bh) (c1 : w.heap[Bl]? = some (.cells #[.func (.func gf) #[] lb] 133 (0, 0))) (c2 : w.heap[Bh]? = some (.cells #[.func (.func hf) hfs hc] 143 (0, 0)))
    (hof : ∀ (x : SV) (W : World), (∃ m, KX ex n m w W) → Calls Tryz.prog hf (hfs ++ #[.agg #[.int .i64 x.st, .int .i64 x.cl.cnt, .int .i64 x.cl.sum, .int .i32 x.cl.mn, .int .i32 x.cl.mx]] ++ hc) W fun e W' => e = .returned (.bool (p x)) ∧ Below W.heap.size W W')
    (hseq : SeqF ex n Tryz.prog gf lb (fun x : SV => #[.agg #[.int .i64 x.st, .int .i64 x.cl.cnt, .int .i64 x.cl.sum, .int .i32 x.cl.mn, .int .i32 x.cl.mx]]) S N w) :
    SeqF ex n Tryz.prog 175 #[.pointer (some ⟨Bl, 0, none⟩), .pointer (some ⟨Bh, 0, none⟩)] (fun x : SV => #[.agg #[.int .i64 x.st, .int .i64 x.cl.cnt, .int .i64 x.cl.sum, .int .i32 x.cl.mn, .int .i32 x.cl.mx]]) (fun ys => ∃ xs, S xs ∧ ys = xs.filter p) N w := by
  intro m hm l J Jx W0 hW hm0 hJ hJx hY h0
  have d1 := (hW.block Bl (lt_of_heap c1)).trans c1
  have d2 := (hW.block Bh (lt_of_heap c2)).trans c2
  have e1 : W0.cell? ⟨Bl, 0, none⟩ = some (.func (.func gf) #[] lb) := by rw [rcell d1]; rfl
  have hlt := lt_of_heap d1
  have hwz := hW.size
  have HOF := hide hof
  have HSEQ := hide hseq
  have HEG := hide eg
  have HEH := hide eh
  have HC2 := hide c2
  have HJ := hide hJ
  have HJx := hide hJx
  have HY := hide hY
  have hb1 : Below W0.heap.size W0 (W0.alloc (.cells #[.func (.yield l) #[] #[]] 143)) := (Below.refl _ _).alloc (Nat.le_refl _) _
  have hyb := rlast W0 (.cells #[.func (.yield l) #[] #[]] 143)
  have hsz := rsize W0 (.cells #[.func (.yield l) #[] #[]] 143)
  have hJ1 := own_below hJ h0 hb1
  have hkx : KX ex n m w (W0.alloc (.cells #[.func (.yield l) #[] #[]] 143)) := KX.of_below (hW.trans (hb1.mono hwz))
  have hWb := hW.trans (hb1.mono hwz)
  have HB := hide hWb
  have HKX := hide hkx
  have HYB := hide hyb
  have HSZ := hide hsz
  have HJ1 := hide hJ1
  clear hof hseq eg eh hJ hJx hY h0 d1 d2 hb1 hyb hsz hJ1 hkx c2 hWb
  refine callsIn_wide.2 ((callsIn_wide (n := 7)).1 ?_)
  refine callsIn_of_wp_marks Tryz.func175 rfl trivial ?_ rfl
  simp only [Tryz.ntmps175, List.size_toArray, List.length_cons, List.length_nil, Nat.reduceAdd, Nat.reduceSub, Array.replicate_succ, Array.replicate_zero, List.push_toArray, List.append_toArray, List.nil_append, List.cons_append]
  gi_wp2
  obtain ⟨V0, hV0⟩ : ∃ V0, (W0.alloc (.cells #[.func (.yield l) #[] #[]] 143)) = V0 := ⟨_, rfl⟩
  rw [hV0] at HKX HYB HSZ HJ1 HB ⊢
  clear hV0
  have hz : V0.heap.size = W0.heap.size + 1 := unhide HSZ
  refine range_O (F := Fence.wide) (n := 7) rfl (by omega) (gf := gf) (lb := lb) rfl trivial (unhide HEG) (unhide HSEQ (V0.heap.size + 2) (by omega)) (Nat.le_refl _) (fun h k => h.trans k) (fun W o o' h hc hw => KX.putObj o' (by omega) (by omega) h hw) (unhide HB) (fun _ => rfl)
    (fun pre W => J (pre.filter p) W ∧ KX ex n (V0.heap.size + 2) w W ∧ W.heap[W0.heap.size]? = some (.cells #[.func (.yield l) #[] #[]] 143 (0, 0)))
    (fun c pre W => c = .ret ∧ ∃ q, Jx q W)
    (fun s A B row hs hg hr => ⟨unhide HJ _ A B row hs.1 hg (fun r e => ⟨by have := (hr r e).1; omega, (hr r e).2⟩), KX.own (β := Unit) (q := V0.heap.size) (by omega) () A B row hs.2.1 hg hr, own_cells hs.2.2 hg (fun r e => (hr r e).2)⟩)
    (fun c s A B row hs hg hr => ⟨hs.1, by obtain ⟨q, hq⟩ := hs.2; exact ⟨q, unhide HJx q A B row hq hg (fun r e => ⟨by have := (hr r e).1; omega, (hr r e).2⟩)⟩⟩)
    ⟨unhide HJ1, (unhide HKX).wider (by omega), unhide HYB⟩
    (fun x a' W => ∃ Bx, V0.heap.size ≤ Bx ∧ W.heap[Bx]? = some (.cells #[.int .i64 x.st, .int .i64 x.cl.cnt, .int .i64 x.cl.sum, .int .i32 x.cl.mn, .int .i32 x.cl.mx] 131 (0, 0)) ∧ a' = { tmps := #[.func (.yield l) #[] #[], .pointer (some ⟨Bl, 0, none⟩), .pointer (some ⟨Bh, 0, none⟩), .pointer (some ⟨W0.heap.size, 0, none⟩), .pointer (some ⟨Bx, 0, none⟩), .func (.func gf) #[] lb, .agg #[.int .i64 x.st, .int .i64 x.cl.cnt, .int .i64 x.cl.sum, .int .i32 x.cl.mn, .int .i32 x.cl.mx], undef, undef, undef, undef, undef, undef, undef, undef, undef], defers := [] })
    (fun x a' s A B row hs hg hr => by
      obtain ⟨Bx, h1, h2, h3⟩ := hs
      exact ⟨Bx, h1, own_cells h2 hg (fun r e => (hr r e).2), h3⟩) ?assign ?body ?done ?stop
  case assign =>
    rintro l' pre x W K ⟨i1, i2, i3⟩ hK
    have hbz := lt_of_heap i3
    have hnw := i2.kept.size
    have HK := hide hK
    clear hK
    gi_wp2
    have hba := (Below.refl W.heap.size W).alloc (Nat.le_refl _) (.cells #[.int .i64 x.st, .int .i64 x.cl.cnt, .int .i64 x.cl.sum, .int .i32 x.cl.mn, .int .i32 x.cl.mx] 131)
    refine unhide HK _ _ (keepsFrom_below hba) (KX.of_below hba) ⟨own_below (unhide HJ) i1 hba, i2.trans (KX.of_below hba), (hba.block _ hbz).trans i3⟩ ⟨W.heap.size, by omega, rlast _ _, rfl⟩
  case body =>
    rintro l' pre x a' W hl ⟨r, hr⟩ ⟨i1, i2, i3⟩ ⟨Bx, hBx, hx, rfl⟩ hlen
    have hnw := i2.kept.size
    have hBz := lt_of_heap hx
    have hyz := lt_of_heap i3
    have hb2 := kx_heap i2 (unhide HC2) hl2.1 hl2.2
    have hbz2 := lt_of_heap hb2
    have c1 : W.cell? ⟨Bh, 0, none⟩ = some (.func (.func hf) hfs hc) := by rw [rcell hb2]; rfl
    have x0 : W.cell? ⟨Bx, 0, none⟩ = some (.int .i64 x.st) := by rw [rcell hx]; rfl
    have x1 : W.cell? ⟨Bx, 1, none⟩ = some (.int .i64 x.cl.cnt) := by rw [rcell hx]; rfl
    have x2 : W.cell? ⟨Bx, 2, none⟩ = some (.int .i64 x.cl.sum) := by rw [rcell hx]; rfl
    have x3 : W.cell? ⟨Bx, 3, none⟩ = some (.int .i32 x.cl.mn) := by rw [rcell hx]; rfl
    have x4 : W.cell? ⟨Bx, 4, none⟩ = some (.int .i32 x.cl.mx) := by rw [rcell hx]; rfl
    have HC := hide (unhide HOF x W ⟨_, i2⟩)
    have HI1 := hide i1
    have HI2 := hide i2
    have HI3 := hide i3
    have HX := hide hx
    have HHR := hide hr
    have hlf := filter_len p pre
    have ecall := unhide HEH
    clear i1 i2 i3 hx hr hb2
    obtain ⟨bx, hbx⟩ : ∃ bx, p x = bx := ⟨_, rfl⟩
    rw [hbx] at HC
    have HPX := hide hbx
    clear hbx
    cases bx with
    | false =>
      gi_wp2
      refine ⟨trivial, (CallsIn.inRound l' (callsIn_wide.2 (unhide HC))).mono ?_⟩
      rintro e W1 ⟨rfl, hb1⟩
      have HB1 := hide hb1
      clear hb1
      gi_wp2
      refine ⟨fun _ h => (by cases h), ?_⟩
      gi_wp2
      exact ⟨keepsFrom_below (unhide HB1), KX.of_below (unhide HB1), by rw [filter_snoc_false (unhide HPX)]; exact own_below (unhide HJ) (unhide HI1) (unhide HB1), (unhide HI2).trans (KX.of_below (unhide HB1)), ((unhide HB1).block _ hyz).trans (unhide HI3)⟩
    | true =>
      gi_wp2
      refine ⟨trivial, (CallsIn.inRound l' (callsIn_wide.2 (unhide HC))).mono ?_⟩
      rintro e W1 ⟨rfl, hb1⟩
      have hx1 := (hb1.block _ hBz).trans (unhide HX)
      have hy1 := (hb1.block _ hyz).trans (unhide HI3)
      have y0 : W1.cell? ⟨W0.heap.size, 0, none⟩ = some (.func (.yield l) #[] #[]) := by rw [rcell hy1]; rfl
      have z0 : W1.cell? ⟨Bx, 0, none⟩ = some (.int .i64 x.st) := by rw [rcell hx1]; rfl
      have z1 : W1.cell? ⟨Bx, 1, none⟩ = some (.int .i64 x.cl.cnt) := by rw [rcell hx1]; rfl
      have z2 : W1.cell? ⟨Bx, 2, none⟩ = some (.int .i64 x.cl.sum) := by rw [rcell hx1]; rfl
      have z3 : W1.cell? ⟨Bx, 3, none⟩ = some (.int .i32 x.cl.mn) := by rw [rcell hx1]; rfl
      have z4 : W1.cell? ⟨Bx, 4, none⟩ = some (.int .i32 x.cl.mx) := by rw [rcell hx1]; rfl
      have HHY1 := hide hy1
      have HB1 := hide hb1
      have hJ1 := own_below (unhide HJ) (unhide HI1) hb1
      obtain ⟨fn, tmps, assign, body, hy, hR⟩ := yield_deep (m' := 4) rfl (unhide HY (pre.filter p) x W1 hJ1 (by omega))
      have hs1 := hb1.size
      clear hb1 hx1 hy1 hJ1
      gi_wp2
      refine RoundIn.mono (F := Fence.wide.inRound l') hR ?_
      rintro e W2 (⟨rfl, hJ2, hk2⟩ | ⟨rfl, hJx2, hk2⟩)
      · have hk12 : KX ex n (V0.heap.size + 2) W W2 := (KX.of_below (unhide HB1)).trans (hk2.wider (by omega))
        have hkf : KeepsFrom V0.heap.size W W2 := (keepsFrom_below (unhide HB1)).trans (hk2.from (by omega))
        have hy2 := hk2.high _ _ (by omega) (unhide HHY1)
        have HK12 := hide hk12
        have HKF := hide hkf
        have HY2 := hide hy2
        have HJ2 := hide hJ2
        clear hk12 hkf hy2 hJ2 hk2
        gi_wp2
        exact ⟨unhide HKF, unhide HK12, by rw [filter_snoc_true (unhide HPX)]; exact unhide HJ2, (unhide HI2).trans (unhide HK12), unhide HY2⟩
      · have hk12 : KX ex n (V0.heap.size + 2) W W2 := (KX.of_below (unhide HB1)).trans (hk2.wider (by omega))
        have hkf : KeepsFrom V0.heap.size W W2 := (keepsFrom_below (unhide HB1)).trans (hk2.from (by omega))
        have HK12 := hide hk12
        have HKF := hide hkf
        have HJ2 := hide hJx2
        clear hk12 hkf hJx2 hk2
        gi_wp2
        exact ⟨unhide HKF, unhide HK12, rfl, _, unhide HJ2⟩
  case done =>
    rintro D xs W hD hS ⟨i1, i2, i3⟩ hK
    have HJD := hide (OwnFrom.putObj (unhide HJ) (.deferred none) i1 (by omega) hK rfl)
    clear i1 i2 i3
    gi_wp2
    refine ⟨by simp, .inl ⟨_, _, rfl, run_takeDeferred hK, ?_⟩⟩
    exact ⟨_, results_none rfl _ _ _, ⟨_, rfl⟩, .inl ⟨_, ⟨xs, hS, rfl⟩, unhide HJD⟩⟩
  case stop =>
    rintro D c pre W hD hS ⟨rfl, q, hq⟩ hK
    have HJD := hide (OwnFrom.putObj (unhide HJx) (.deferred none) hq (by omega) hK rfl)
    clear hq
    gi_wp2
    refine ⟨by simp, .inl ⟨_, _, rfl, run_takeDeferred hK, ?_⟩⟩
    exact ⟨_, results_none rfl _ _ _, ⟨_, rfl⟩, .inr ⟨_, trivial, unhide HJD⟩⟩

set_option maxRecDepth 100000 in
set_option maxHeartbeats 2000000 in
theorem where_key {α : Type} (sg : α → Sg) (gf : Nat) (lb : Array Value) (eg : ∀ args w, (callFunc gf args).run Tryz.prog w = .ok (.enter gf args) w) (hf : Nat) (hfs hc : Array Value) (eh : ∀ args w, (callFunc hf args).run Tryz.prog w = .ok (.enter hf args) w) {ex : Nat → Prop} {n N : Nat} {S : List α → Prop} (p : α → Bool) (Bl Bh : Nat) (w : World) (hn : n ≤ w.heap.size)
    (hl1 : Bl < n ∧ ¬ ex Bl) (hl2 : Bh < n ∧ ¬ ex Bh) (c1 : w.heap[Bl]? = some (.cells #[.func (.func gf) #[] lb] 179 (0, 0))) (c2 : w.heap[Bh]? = some (.cells #[.func (.func hf) hfs hc] 226 (0, 0)))
    (hof : ∀ (x : α) (W : World), (∃ m, KX ex n m w W) → Calls Tryz.prog hf (hfs ++ #[.agg #[.int .i64 (sg x).t, .int .i64 (sg x).ser, .int .i64 (sg x).win]] ++ hc) W fun e W' => e = .returned (.bool (p x)) ∧ Below W.heap.size W W')
    (hseq : SeqF ex n Tryz.prog gf lb (fun x : α => #[.agg #[.int .i64 (sg x).t, .int .i64 (sg x).ser, .int .i64 (sg x).win]]) S N w) :
    SeqF ex n Tryz.prog 191 #[.pointer (some ⟨Bl, 0, none⟩), .pointer (some ⟨Bh, 0, none⟩)] (fun x : α => #[.agg #[.int .i64 (sg x).t, .int .i64 (sg x).ser, .int .i64 (sg x).win]]) (fun ys => ∃ xs, S xs ∧ ys = xs.filter p) N w := by
  intro m hm l J Jx W0 hW hm0 hJ hJx hY h0
  have d1 := (hW.block Bl (lt_of_heap c1)).trans c1
  have d2 := (hW.block Bh (lt_of_heap c2)).trans c2
  have e1 : W0.cell? ⟨Bl, 0, none⟩ = some (.func (.func gf) #[] lb) := by rw [rcell d1]; rfl
  have hlt := lt_of_heap d1
  have hwz := hW.size
  have HOF := hide hof
  have HSEQ := hide hseq
  have HEG := hide eg
  have HEH := hide eh
  have HC2 := hide c2
  have HJ := hide hJ
  have HJx := hide hJx
  have HY := hide hY
  have hb1 : Below W0.heap.size W0 (W0.alloc (.cells #[.func (.yield l) #[] #[]] 226)) := (Below.refl _ _).alloc (Nat.le_refl _) _
  have hyb := rlast W0 (.cells #[.func (.yield l) #[] #[]] 226)
  have hsz := rsize W0 (.cells #[.func (.yield l) #[] #[]] 226)
  have hJ1 := own_below hJ h0 hb1
  have hkx : KX ex n m w (W0.alloc (.cells #[.func (.yield l) #[] #[]] 226)) := KX.of_below (hW.trans (hb1.mono hwz))
  have hWb := hW.trans (hb1.mono hwz)
  have HB := hide hWb
  have HKX := hide hkx
  have HYB := hide hyb
  have HSZ := hide hsz
  have HJ1 := hide hJ1
  clear hof hseq eg eh hJ hJx hY h0 d1 d2 hb1 hyb hsz hJ1 hkx c2 hWb
  refine callsIn_wide.2 ((callsIn_wide (n := 7)).1 ?_)
  refine callsIn_of_wp_marks Tryz.func191 rfl trivial ?_ rfl
  simp only [Tryz.ntmps191, List.size_toArray, List.length_cons, List.length_nil, Nat.reduceAdd, Nat.reduceSub, Array.replicate_succ, Array.replicate_zero, List.push_toArray, List.append_toArray, List.nil_append, List.cons_append]
  gi_wp2
  obtain ⟨V0, hV0⟩ : ∃ V0, (W0.alloc (.cells #[.func (.yield l) #[] #[]] 226)) = V0 := ⟨_, rfl⟩
  rw [hV0] at HKX HYB HSZ HJ1 HB ⊢
  clear hV0
  have hz : V0.heap.size = W0.heap.size + 1 := unhide HSZ
  refine range_O (F := Fence.wide) (n := 7) rfl (by omega) (gf := gf) (lb := lb) rfl trivial (unhide HEG) (unhide HSEQ (V0.heap.size + 2) (by omega)) (Nat.le_refl _) (fun h k => h.trans k) (fun W o o' h hc hw => KX.putObj o' (by omega) (by omega) h hw) (unhide HB) (fun _ => rfl)
    (fun pre W => J (pre.filter p) W ∧ KX ex n (V0.heap.size + 2) w W ∧ W.heap[W0.heap.size]? = some (.cells #[.func (.yield l) #[] #[]] 226 (0, 0)))
    (fun c pre W => c = .ret ∧ ∃ q, Jx q W)
    (fun s A B row hs hg hr => ⟨unhide HJ _ A B row hs.1 hg (fun r e => ⟨by have := (hr r e).1; omega, (hr r e).2⟩), KX.own (β := Unit) (q := V0.heap.size) (by omega) () A B row hs.2.1 hg hr, own_cells hs.2.2 hg (fun r e => (hr r e).2)⟩)
    (fun c s A B row hs hg hr => ⟨hs.1, by obtain ⟨q, hq⟩ := hs.2; exact ⟨q, unhide HJx q A B row hq hg (fun r e => ⟨by have := (hr r e).1; omega, (hr r e).2⟩)⟩⟩)
    ⟨unhide HJ1, (unhide HKX).wider (by omega), unhide HYB⟩
    (fun x a' W => ∃ Bx, V0.heap.size ≤ Bx ∧ W.heap[Bx]? = some (.cells #[.int .i64 (sg x).t, .int .i64 (sg x).ser, .int .i64 (sg x).win] 137 (0, 0)) ∧ a' = { tmps := #[.func (.yield l) #[] #[], .pointer (some ⟨Bl, 0, none⟩), .pointer (some ⟨Bh, 0, none⟩), .pointer (some ⟨W0.heap.size, 0, none⟩), .pointer (some ⟨Bx, 0, none⟩), .func (.func gf) #[] lb, .agg #[.int .i64 (sg x).t, .int .i64 (sg x).ser, .int .i64 (sg x).win], undef, undef, undef, undef, undef, undef, undef, undef, undef], defers := [] })
    (fun x a' s A B row hs hg hr => by
      obtain ⟨Bx, h1, h2, h3⟩ := hs
      exact ⟨Bx, h1, own_cells h2 hg (fun r e => (hr r e).2), h3⟩) ?assign ?body ?done ?stop
  case assign =>
    rintro l' pre x W K ⟨i1, i2, i3⟩ hK
    have hbz := lt_of_heap i3
    have hnw := i2.kept.size
    have HK := hide hK
    clear hK
    gi_wp2
    have hba := (Below.refl W.heap.size W).alloc (Nat.le_refl _) (.cells #[.int .i64 (sg x).t, .int .i64 (sg x).ser, .int .i64 (sg x).win] 137)
    refine unhide HK _ _ (keepsFrom_below hba) (KX.of_below hba) ⟨own_below (unhide HJ) i1 hba, i2.trans (KX.of_below hba), (hba.block _ hbz).trans i3⟩ ⟨W.heap.size, by omega, rlast _ _, rfl⟩
  case body =>
    rintro l' pre x a' W hl ⟨r, hr⟩ ⟨i1, i2, i3⟩ ⟨Bx, hBx, hx, rfl⟩ hlen
    have hnw := i2.kept.size
    have hBz := lt_of_heap hx
    have hyz := lt_of_heap i3
    have hb2 := kx_heap i2 (unhide HC2) hl2.1 hl2.2
    have hbz2 := lt_of_heap hb2
    have c1 : W.cell? ⟨Bh, 0, none⟩ = some (.func (.func hf) hfs hc) := by rw [rcell hb2]; rfl
    have x0 : W.cell? ⟨Bx, 0, none⟩ = some (.int .i64 (sg x).t) := by rw [rcell hx]; rfl
    have x1 : W.cell? ⟨Bx, 1, none⟩ = some (.int .i64 (sg x).ser) := by rw [rcell hx]; rfl
    have x2 : W.cell? ⟨Bx, 2, none⟩ = some (.int .i64 (sg x).win) := by rw [rcell hx]; rfl
    have HC := hide (unhide HOF x W ⟨_, i2⟩)
    have HI1 := hide i1
    have HI2 := hide i2
    have HI3 := hide i3
    have HX := hide hx
    have HHR := hide hr
    have hlf := filter_len p pre
    have ecall := unhide HEH
    clear i1 i2 i3 hx hr hb2
    obtain ⟨bx, hbx⟩ : ∃ bx, p x = bx := ⟨_, rfl⟩
    rw [hbx] at HC
    have HPX := hide hbx
    clear hbx
    cases bx with
    | false =>
      gi_wp2
      refine ⟨trivial, (CallsIn.inRound l' (callsIn_wide.2 (unhide HC))).mono ?_⟩
      rintro e W1 ⟨rfl, hb1⟩
      have HB1 := hide hb1
      clear hb1
      gi_wp2
      refine ⟨fun _ h => (by cases h), ?_⟩
      gi_wp2
      exact ⟨keepsFrom_below (unhide HB1), KX.of_below (unhide HB1), by rw [filter_snoc_false (unhide HPX)]; exact own_below (unhide HJ) (unhide HI1) (unhide HB1), (unhide HI2).trans (KX.of_below (unhide HB1)), ((unhide HB1).block _ hyz).trans (unhide HI3)⟩
    | true =>
      gi_wp2
      refine ⟨trivial, (CallsIn.inRound l' (callsIn_wide.2 (unhide HC))).mono ?_⟩
      rintro e W1 ⟨rfl, hb1⟩
      have hx1 := (hb1.block _ hBz).trans (unhide HX)
      have hy1 := (hb1.block _ hyz).trans (unhide HI3)
      have y0 : W1.cell? ⟨W0.heap.size, 0, none⟩ = some (.func (.yield l) #[] #[]) := by rw [rcell hy1]; rfl
      have z0 : W1.cell? ⟨Bx, 0, none⟩ = some (.int .i64 (sg x).t) := by rw [rcell hx1]; rfl
      have z1 : W1.cell? ⟨Bx, 1, none⟩ = some (.int .i64 (sg x).ser) := by rw [rcell hx1]; rfl
      have z2 : W1.cell? ⟨Bx, 2, none⟩ = some (.int .i64 (sg x).win) := by rw [rcell hx1]; rfl
      have HHY1 := hide hy1
      have HB1 := hide hb1
      have hJ1 := own_below (unhide HJ) (unhide HI1) hb1
      obtain ⟨fn, tmps, assign, body, hy, hR⟩ := yield_deep (m' := 4) rfl (unhide HY (pre.filter p) x W1 hJ1 (by omega))
      have hs1 := hb1.size
      clear hb1 hx1 hy1 hJ1
      gi_wp2
      refine RoundIn.mono (F := Fence.wide.inRound l') hR ?_
      rintro e W2 (⟨rfl, hJ2, hk2⟩ | ⟨rfl, hJx2, hk2⟩)
      · have hk12 : KX ex n (V0.heap.size + 2) W W2 := (KX.of_below (unhide HB1)).trans (hk2.wider (by omega))
        have hkf : KeepsFrom V0.heap.size W W2 := (keepsFrom_below (unhide HB1)).trans (hk2.from (by omega))
        have hy2 := hk2.high _ _ (by omega) (unhide HHY1)
        have HK12 := hide hk12
        have HKF := hide hkf
        have HY2 := hide hy2
        have HJ2 := hide hJ2
        clear hk12 hkf hy2 hJ2 hk2
        gi_wp2
        exact ⟨unhide HKF, unhide HK12, by rw [filter_snoc_true (unhide HPX)]; exact unhide HJ2, (unhide HI2).trans (unhide HK12), unhide HY2⟩
      · have hk12 : KX ex n (V0.heap.size + 2) W W2 := (KX.of_below (unhide HB1)).trans (hk2.wider (by omega))
        have hkf : KeepsFrom V0.heap.size W W2 := (keepsFrom_below (unhide HB1)).trans (hk2.from (by omega))
        have HK12 := hide hk12
        have HKF := hide hkf
        have HJ2 := hide hJx2
        clear hk12 hkf hJx2 hk2
        gi_wp2
        exact ⟨unhide HKF, unhide HK12, rfl, _, unhide HJ2⟩
  case done =>
    rintro D xs W hD hS ⟨i1, i2, i3⟩ hK
    have HJD := hide (OwnFrom.putObj (unhide HJ) (.deferred none) i1 (by omega) hK rfl)
    clear i1 i2 i3
    gi_wp2
    refine ⟨by simp, .inl ⟨_, _, rfl, run_takeDeferred hK, ?_⟩⟩
    exact ⟨_, results_none rfl _ _ _, ⟨_, rfl⟩, .inl ⟨_, ⟨xs, hS, rfl⟩, unhide HJD⟩⟩
  case stop =>
    rintro D c pre W hD hS ⟨rfl, q, hq⟩ hK
    have HJD := hide (OwnFrom.putObj (unhide HJx) (.deferred none) hq (by omega) hK rfl)
    clear hq
    gi_wp2
    refine ⟨by simp, .inl ⟨_, _, rfl, run_takeDeferred hK, ?_⟩⟩
    exact ⟨_, results_none rfl _ _ _, ⟨_, rfl⟩, .inr ⟨_, trivial, unhide HJD⟩⟩

set_option maxRecDepth 100000 in
set_option maxHeartbeats 2000000 in
theorem where_lse (gf : Nat) (lb : Array Value) (eg : ∀ args w, (callFunc gf args).run Tryz.prog w = .ok (.enter gf args) w) (hf : Nat) (hfs hc : Array Value) (eh : ∀ args w, (callFunc hf args).run Tryz.prog w = .ok (.enter hf args) w) {ex : Nat → Prop} {n N : Nat} {S : List Lse → Prop} (p : Lse → Bool) (Bl Bh : Nat) (w : World) (hn : n ≤ w.heap.size)
    (hl1 : Bl < n ∧ ¬ ex Bl) (hl2 : Bh < n ∧ ¬ ex Bh) (c1 : w.heap[Bl]? = some (.cells #[.func (.func gf) #[] lb] 151 (0, 0))) (c2 : w.heap[Bh]? = some (.cells #[.func (.func hf) hfs hc] 157 (0, 0)))
    (hof : ∀ (x : Lse) (W : World), (∃ m, KX ex n m w W) → Calls Tryz.prog hf (hfs ++ #[.agg #[.int .i64 x.kd, .int .i64 x.s.t, .int .i64 x.s.ser, .int .i64 x.s.win, .int .i64 x.slot, .int .i64 x.til]] ++ hc) W fun e W' => e = .returned (.bool (p x)) ∧ Below W.heap.size W W')
    (hseq : SeqF ex n Tryz.prog gf lb (fun x : Lse => #[.agg #[.int .i64 x.kd, .int .i64 x.s.t, .int .i64 x.s.ser, .int .i64 x.s.win, .int .i64 x.slot, .int .i64 x.til]]) S N w) :
    SeqF ex n Tryz.prog 176 #[.pointer (some ⟨Bl, 0, none⟩), .pointer (some ⟨Bh, 0, none⟩)] (fun x : Lse => #[.agg #[.int .i64 x.kd, .int .i64 x.s.t, .int .i64 x.s.ser, .int .i64 x.s.win, .int .i64 x.slot, .int .i64 x.til]]) (fun ys => ∃ xs, S xs ∧ ys = xs.filter p) N w := by
  intro m hm l J Jx W0 hW hm0 hJ hJx hY h0
  have d1 := (hW.block Bl (lt_of_heap c1)).trans c1
  have d2 := (hW.block Bh (lt_of_heap c2)).trans c2
  have e1 : W0.cell? ⟨Bl, 0, none⟩ = some (.func (.func gf) #[] lb) := by rw [rcell d1]; rfl
  have hlt := lt_of_heap d1
  have hwz := hW.size
  have HOF := hide hof
  have HSEQ := hide hseq
  have HEG := hide eg
  have HEH := hide eh
  have HC2 := hide c2
  have HJ := hide hJ
  have HJx := hide hJx
  have HY := hide hY
  have hb1 : Below W0.heap.size W0 (W0.alloc (.cells #[.func (.yield l) #[] #[]] 157)) := (Below.refl _ _).alloc (Nat.le_refl _) _
  have hyb := rlast W0 (.cells #[.func (.yield l) #[] #[]] 157)
  have hsz := rsize W0 (.cells #[.func (.yield l) #[] #[]] 157)
  have hJ1 := own_below hJ h0 hb1
  have hkx : KX ex n m w (W0.alloc (.cells #[.func (.yield l) #[] #[]] 157)) := KX.of_below (hW.trans (hb1.mono hwz))
  have hWb := hW.trans (hb1.mono hwz)
  have HB := hide hWb
  have HKX := hide hkx
  have HYB := hide hyb
  have HSZ := hide hsz
  have HJ1 := hide hJ1
  clear hof hseq eg eh hJ hJx hY h0 d1 d2 hb1 hyb hsz hJ1 hkx c2 hWb
  refine callsIn_wide.2 ((callsIn_wide (n := 7)).1 ?_)
  refine callsIn_of_wp_marks Tryz.func176 rfl trivial ?_ rfl
  simp only [Tryz.ntmps176, List.size_toArray, List.length_cons, List.length_nil, Nat.reduceAdd, Nat.reduceSub, Array.replicate_succ, Array.replicate_zero, List.push_toArray, List.append_toArray, List.nil_append, List.cons_append]
  gi_wp2
  obtain ⟨V0, hV0⟩ : ∃ V0, (W0.alloc (.cells #[.func (.yield l) #[] #[]] 157)) = V0 := ⟨_, rfl⟩
  rw [hV0] at HKX HYB HSZ HJ1 HB ⊢
  clear hV0
  have hz : V0.heap.size = W0.heap.size + 1 := unhide HSZ
  refine range_O (F := Fence.wide) (n := 7) rfl (by omega) (gf := gf) (lb := lb) rfl trivial (unhide HEG) (unhide HSEQ (V0.heap.size + 2) (by omega)) (Nat.le_refl _) (fun h k => h.trans k) (fun W o o' h hc hw => KX.putObj o' (by omega) (by omega) h hw) (unhide HB) (fun _ => rfl)
    (fun pre W => J (pre.filter p) W ∧ KX ex n (V0.heap.size + 2) w W ∧ W.heap[W0.heap.size]? = some (.cells #[.func (.yield l) #[] #[]] 157 (0, 0)))
    (fun c pre W => c = .ret ∧ ∃ q, Jx q W)
    (fun s A B row hs hg hr => ⟨unhide HJ _ A B row hs.1 hg (fun r e => ⟨by have := (hr r e).1; omega, (hr r e).2⟩), KX.own (β := Unit) (q := V0.heap.size) (by omega) () A B row hs.2.1 hg hr, own_cells hs.2.2 hg (fun r e => (hr r e).2)⟩)
    (fun c s A B row hs hg hr => ⟨hs.1, by obtain ⟨q, hq⟩ := hs.2; exact ⟨q, unhide HJx q A B row hq hg (fun r e => ⟨by have := (hr r e).1; omega, (hr r e).2⟩)⟩⟩)
    ⟨unhide HJ1, (unhide HKX).wider (by omega), unhide HYB⟩
    (fun x a' W => ∃ Bx, V0.heap.size ≤ Bx ∧ W.heap[Bx]? = some (.cells #[.int .i64 x.kd, .int .i64 x.s.t, .int .i64 x.s.ser, .int .i64 x.s.win, .int .i64 x.slot, .int .i64 x.til] 149 (0, 0)) ∧ a' = { tmps := #[.func (.yield l) #[] #[], .pointer (some ⟨Bl, 0, none⟩), .pointer (some ⟨Bh, 0, none⟩), .pointer (some ⟨W0.heap.size, 0, none⟩), .pointer (some ⟨Bx, 0, none⟩), .func (.func gf) #[] lb, .agg #[.int .i64 x.kd, .int .i64 x.s.t, .int .i64 x.s.ser, .int .i64 x.s.win, .int .i64 x.slot, .int .i64 x.til], undef, undef, undef, undef, undef, undef, undef, undef, undef], defers := [] })
    (fun x a' s A B row hs hg hr => by
      obtain ⟨Bx, h1, h2, h3⟩ := hs
      exact ⟨Bx, h1, own_cells h2 hg (fun r e => (hr r e).2), h3⟩) ?assign ?body ?done ?stop
  case assign =>
    rintro l' pre x W K ⟨i1, i2, i3⟩ hK
    have hbz := lt_of_heap i3
    have hnw := i2.kept.size
    have HK := hide hK
    clear hK
    gi_wp2
    have hba := (Below.refl W.heap.size W).alloc (Nat.le_refl _) (.cells #[.int .i64 x.kd, .int .i64 x.s.t, .int .i64 x.s.ser, .int .i64 x.s.win, .int .i64 x.slot, .int .i64 x.til] 149)
    refine unhide HK _ _ (keepsFrom_below hba) (KX.of_below hba) ⟨own_below (unhide HJ) i1 hba, i2.trans (KX.of_below hba), (hba.block _ hbz).trans i3⟩ ⟨W.heap.size, by omega, rlast _ _, rfl⟩
  case body =>
    rintro l' pre x a' W hl ⟨r, hr⟩ ⟨i1, i2, i3⟩ ⟨Bx, hBx, hx, rfl⟩ hlen
    have hnw := i2.kept.size
    have hBz := lt_of_heap hx
    have hyz := lt_of_heap i3
    have hb2 := kx_heap i2 (unhide HC2) hl2.1 hl2.2
    have hbz2 := lt_of_heap hb2
    have c1 : W.cell? ⟨Bh, 0, none⟩ = some (.func (.func hf) hfs hc) := by rw [rcell hb2]; rfl
    have x0 : W.cell? ⟨Bx, 0, none⟩ = some (.int .i64 x.kd) := by rw [rcell hx]; rfl
    have x1 : W.cell? ⟨Bx, 1, none⟩ = some (.int .i64 x.s.t) := by rw [rcell hx]; rfl
    have x2 : W.cell? ⟨Bx, 2, none⟩ = some (.int .i64 x.s.ser) := by rw [rcell hx]; rfl
    have x3 : W.cell? ⟨Bx, 3, none⟩ = some (.int .i64 x.s.win) := by rw [rcell hx]; rfl
    have x4 : W.cell? ⟨Bx, 4, none⟩ = some (.int .i64 x.slot) := by rw [rcell hx]; rfl
    have x5 : W.cell? ⟨Bx, 5, none⟩ = some (.int .i64 x.til) := by rw [rcell hx]; rfl
    have HC := hide (unhide HOF x W ⟨_, i2⟩)
    have HI1 := hide i1
    have HI2 := hide i2
    have HI3 := hide i3
    have HX := hide hx
    have HHR := hide hr
    have hlf := filter_len p pre
    have ecall := unhide HEH
    clear i1 i2 i3 hx hr hb2
    obtain ⟨bx, hbx⟩ : ∃ bx, p x = bx := ⟨_, rfl⟩
    rw [hbx] at HC
    have HPX := hide hbx
    clear hbx
    cases bx with
    | false =>
      gi_wp2
      refine ⟨trivial, (CallsIn.inRound l' (callsIn_wide.2 (unhide HC))).mono ?_⟩
      rintro e W1 ⟨rfl, hb1⟩
      have HB1 := hide hb1
      clear hb1
      gi_wp2
      refine ⟨fun _ h => (by cases h), ?_⟩
      gi_wp2
      exact ⟨keepsFrom_below (unhide HB1), KX.of_below (unhide HB1), by rw [filter_snoc_false (unhide HPX)]; exact own_below (unhide HJ) (unhide HI1) (unhide HB1), (unhide HI2).trans (KX.of_below (unhide HB1)), ((unhide HB1).block _ hyz).trans (unhide HI3)⟩
    | true =>
      gi_wp2
      refine ⟨trivial, (CallsIn.inRound l' (callsIn_wide.2 (unhide HC))).mono ?_⟩
      rintro e W1 ⟨rfl, hb1⟩
      have hx1 := (hb1.block _ hBz).trans (unhide HX)
      have hy1 := (hb1.block _ hyz).trans (unhide HI3)
      have y0 : W1.cell? ⟨W0.heap.size, 0, none⟩ = some (.func (.yield l) #[] #[]) := by rw [rcell hy1]; rfl
      have z0 : W1.cell? ⟨Bx, 0, none⟩ = some (.int .i64 x.kd) := by rw [rcell hx1]; rfl
      have z1 : W1.cell? ⟨Bx, 1, none⟩ = some (.int .i64 x.s.t) := by rw [rcell hx1]; rfl
      have z2 : W1.cell? ⟨Bx, 2, none⟩ = some (.int .i64 x.s.ser) := by rw [rcell hx1]; rfl
      have z3 : W1.cell? ⟨Bx, 3, none⟩ = some (.int .i64 x.s.win) := by rw [rcell hx1]; rfl
      have z4 : W1.cell? ⟨Bx, 4, none⟩ = some (.int .i64 x.slot) := by rw [rcell hx1]; rfl
      have z5 : W1.cell? ⟨Bx, 5, none⟩ = some (.int .i64 x.til) := by rw [rcell hx1]; rfl
      have HHY1 := hide hy1
      have HB1 := hide hb1
      have hJ1 := own_below (unhide HJ) (unhide HI1) hb1
      obtain ⟨fn, tmps, assign, body, hy, hR⟩ := yield_deep (m' := 4) rfl (unhide HY (pre.filter p) x W1 hJ1 (by omega))
      have hs1 := hb1.size
      clear hb1 hx1 hy1 hJ1
      gi_wp2
      refine RoundIn.mono (F := Fence.wide.inRound l') hR ?_
      rintro e W2 (⟨rfl, hJ2, hk2⟩ | ⟨rfl, hJx2, hk2⟩)
      · have hk12 : KX ex n (V0.heap.size + 2) W W2 := (KX.of_below (unhide HB1)).trans (hk2.wider (by omega))
        have hkf : KeepsFrom V0.heap.size W W2 := (keepsFrom_below (unhide HB1)).trans (hk2.from (by omega))
        have hy2 := hk2.high _ _ (by omega) (unhide HHY1)
        have HK12 := hide hk12
        have HKF := hide hkf
        have HY2 := hide hy2
        have HJ2 := hide hJ2
        clear hk12 hkf hy2 hJ2 hk2
        gi_wp2
        exact ⟨unhide HKF, unhide HK12, by rw [filter_snoc_true (unhide HPX)]; exact unhide HJ2, (unhide HI2).trans (unhide HK12), unhide HY2⟩
      · have hk12 : KX ex n (V0.heap.size + 2) W W2 := (KX.of_below (unhide HB1)).trans (hk2.wider (by omega))
        have hkf : KeepsFrom V0.heap.size W W2 := (keepsFrom_below (unhide HB1)).trans (hk2.from (by omega))
        have HK12 := hide hk12
        have HKF := hide hkf
        have HJ2 := hide hJx2
        clear hk12 hkf hJx2 hk2
        gi_wp2
        exact ⟨unhide HKF, unhide HK12, rfl, _, unhide HJ2⟩
  case done =>
    rintro D xs W hD hS ⟨i1, i2, i3⟩ hK
    have HJD := hide (OwnFrom.putObj (unhide HJ) (.deferred none) i1 (by omega) hK rfl)
    clear i1 i2 i3
    gi_wp2
    refine ⟨by simp, .inl ⟨_, _, rfl, run_takeDeferred hK, ?_⟩⟩
    exact ⟨_, results_none rfl _ _ _, ⟨_, rfl⟩, .inl ⟨_, ⟨xs, hS, rfl⟩, unhide HJD⟩⟩
  case stop =>
    rintro D c pre W hD hS ⟨rfl, q, hq⟩ hK
    have HJD := hide (OwnFrom.putObj (unhide HJx) (.deferred none) hq (by omega) hK rfl)
    clear hq
    gi_wp2
    refine ⟨by simp, .inl ⟨_, _, rfl, run_takeDeferred hK, ?_⟩⟩
    exact ⟨_, results_none rfl _ _ _, ⟨_, rfl⟩, .inr ⟨_, trivial, unhide HJD⟩⟩

set_option maxRecDepth 100000 in
set_option maxHeartbeats 2000000 in
theorem where_tsk {α : Type} (tk : α → Tsk) (gf : Nat) (lb : Array Value) (eg : ∀ args w, (callFunc gf args).run Tryz.prog w = .ok (.enter gf args) w) (hf : Nat) (hfs hc : Array Value) (eh : ∀ args w, (callFunc hf args).run Tryz.prog w = .ok (.enter hf args) w) {ex : Nat → Prop} {n N : Nat} {S : List α → Prop} (p : α → Bool) (Bl Bh : Nat) (w : World) (hn : n ≤ w.heap.size)
    (hl1 : Bl < n ∧ ¬ ex Bl) (hl2 : Bh < n ∧ ¬ ex Bh) (c1 : w.heap[Bl]? = some (.cells #[.func (.func gf) #[] lb] 159 (0, 0))) (c2 : w.heap[Bh]? = some (.cells #[.func (.func hf) hfs hc] 164 (0, 0)))
    (hof : ∀ (x : α) (W : World), (∃ m, KX ex n m w W) → Calls Tryz.prog hf (hfs ++ #[.agg #[.iface (tk x).jt (.agg #[.int .i64 (tk x).s.t, .int .i64 (tk x).s.ser, .int .i64 (tk x).s.win]), .int .i64 (tk x).since, .int .i64 (tk x).tries, .int .i64 (tk x).rest]] ++ hc) W fun e W' => e = .returned (.bool (p x)) ∧ Below W.heap.size W W')
    (hseq : SeqF ex n Tryz.prog gf lb (fun x : α => #[.agg #[.iface (tk x).jt (.agg #[.int .i64 (tk x).s.t, .int .i64 (tk x).s.ser, .int .i64 (tk x).s.win]), .int .i64 (tk x).since, .int .i64 (tk x).tries, .int .i64 (tk x).rest]]) S N w) :
    SeqF ex n Tryz.prog 132 #[.pointer (some ⟨Bl, 0, none⟩), .pointer (some ⟨Bh, 0, none⟩)] (fun x : α => #[.agg #[.iface (tk x).jt (.agg #[.int .i64 (tk x).s.t, .int .i64 (tk x).s.ser, .int .i64 (tk x).s.win]), .int .i64 (tk x).since, .int .i64 (tk x).tries, .int .i64 (tk x).rest]]) (fun ys => ∃ xs, S xs ∧ ys = xs.filter p) N w := by
  intro m hm l J Jx W0 hW hm0 hJ hJx hY h0
  have d1 := (hW.block Bl (lt_of_heap c1)).trans c1
  have d2 := (hW.block Bh (lt_of_heap c2)).trans c2
  have e1 : W0.cell? ⟨Bl, 0, none⟩ = some (.func (.func gf) #[] lb) := by rw [rcell d1]; rfl
  have hlt := lt_of_heap d1
  have hwz := hW.size
  have HOF := hide hof
  have HSEQ := hide hseq
  have HEG := hide eg
  have HEH := hide eh
  have HC2 := hide c2
  have HJ := hide hJ
  have HJx := hide hJx
  have HY := hide hY
  have hb1 : Below W0.heap.size W0 (W0.alloc (.cells #[.func (.yield l) #[] #[]] 164)) := (Below.refl _ _).alloc (Nat.le_refl _) _
  have hyb := rlast W0 (.cells #[.func (.yield l) #[] #[]] 164)
  have hsz := rsize W0 (.cells #[.func (.yield l) #[] #[]] 164)
  have hJ1 := own_below hJ h0 hb1
  have hkx : KX ex n m w (W0.alloc (.cells #[.func (.yield l) #[] #[]] 164)) := KX.of_below (hW.trans (hb1.mono hwz))
  have hWb := hW.trans (hb1.mono hwz)
  have HB := hide hWb
  have HKX := hide hkx
  have HYB := hide hyb
  have HSZ := hide hsz
  have HJ1 := hide hJ1
  clear hof hseq eg eh hJ hJx hY h0 d1 d2 hb1 hyb hsz hJ1 hkx c2 hWb
  refine callsIn_wide.2 ((callsIn_wide (n := 7)).1 ?_)
  refine callsIn_of_wp_marks Tryz.func132 rfl trivial ?_ rfl
  simp only [Tryz.ntmps132, List.size_toArray, List.length_cons, List.length_nil, Nat.reduceAdd, Nat.reduceSub, Array.replicate_succ, Array.replicate_zero, List.push_toArray, List.append_toArray, List.nil_append, List.cons_append]
  gi_wp2
  obtain ⟨V0, hV0⟩ : ∃ V0, (W0.alloc (.cells #[.func (.yield l) #[] #[]] 164)) = V0 := ⟨_, rfl⟩
  rw [hV0] at HKX HYB HSZ HJ1 HB ⊢
  clear hV0
  have hz : V0.heap.size = W0.heap.size + 1 := unhide HSZ
  refine range_O (F := Fence.wide) (n := 7) rfl (by omega) (gf := gf) (lb := lb) rfl trivial (unhide HEG) (unhide HSEQ (V0.heap.size + 2) (by omega)) (Nat.le_refl _) (fun h k => h.trans k) (fun W o o' h hc hw => KX.putObj o' (by omega) (by omega) h hw) (unhide HB) (fun _ => rfl)
    (fun pre W => J (pre.filter p) W ∧ KX ex n (V0.heap.size + 2) w W ∧ W.heap[W0.heap.size]? = some (.cells #[.func (.yield l) #[] #[]] 164 (0, 0)))
    (fun c pre W => c = .ret ∧ ∃ q, Jx q W)
    (fun s A B row hs hg hr => ⟨unhide HJ _ A B row hs.1 hg (fun r e => ⟨by have := (hr r e).1; omega, (hr r e).2⟩), KX.own (β := Unit) (q := V0.heap.size) (by omega) () A B row hs.2.1 hg hr, own_cells hs.2.2 hg (fun r e => (hr r e).2)⟩)
    (fun c s A B row hs hg hr => ⟨hs.1, by obtain ⟨q, hq⟩ := hs.2; exact ⟨q, unhide HJx q A B row hq hg (fun r e => ⟨by have := (hr r e).1; omega, (hr r e).2⟩)⟩⟩)
    ⟨unhide HJ1, (unhide HKX).wider (by omega), unhide HYB⟩
    (fun x a' W => ∃ Bx, V0.heap.size ≤ Bx ∧ W.heap[Bx]? = some (.cells #[.iface (tk x).jt (.agg #[.int .i64 (tk x).s.t, .int .i64 (tk x).s.ser, .int .i64 (tk x).s.win]), .int .i64 (tk x).since, .int .i64 (tk x).tries, .int .i64 (tk x).rest] 162 (0, 0)) ∧ a' = { tmps := #[.func (.yield l) #[] #[], .pointer (some ⟨Bl, 0, none⟩), .pointer (some ⟨Bh, 0, none⟩), .pointer (some ⟨W0.heap.size, 0, none⟩), .pointer (some ⟨Bx, 0, none⟩), .func (.func gf) #[] lb, .agg #[.iface (tk x).jt (.agg #[.int .i64 (tk x).s.t, .int .i64 (tk x).s.ser, .int .i64 (tk x).s.win]), .int .i64 (tk x).since, .int .i64 (tk x).tries, .int .i64 (tk x).rest], undef, undef, undef, undef, undef, undef, undef, undef, undef], defers := [] })
    (fun x a' s A B row hs hg hr => by
      obtain ⟨Bx, h1, h2, h3⟩ := hs
      exact ⟨Bx, h1, own_cells h2 hg (fun r e => (hr r e).2), h3⟩) ?assign ?body ?done ?stop
  case assign =>
    rintro l' pre x W K ⟨i1, i2, i3⟩ hK
    have hbz := lt_of_heap i3
    have hnw := i2.kept.size
    have HK := hide hK
    clear hK
    gi_wp2
    have hba := (Below.refl W.heap.size W).alloc (Nat.le_refl _) (.cells #[.iface (tk x).jt (.agg #[.int .i64 (tk x).s.t, .int .i64 (tk x).s.ser, .int .i64 (tk x).s.win]), .int .i64 (tk x).since, .int .i64 (tk x).tries, .int .i64 (tk x).rest] 162)
    refine unhide HK _ _ (keepsFrom_below hba) (KX.of_below hba) ⟨own_below (unhide HJ) i1 hba, i2.trans (KX.of_below hba), (hba.block _ hbz).trans i3⟩ ⟨W.heap.size, by omega, rlast _ _, rfl⟩
  case body =>
    rintro l' pre x a' W hl ⟨r, hr⟩ ⟨i1, i2, i3⟩ ⟨Bx, hBx, hx, rfl⟩ hlen
    have hnw := i2.kept.size
    have hBz := lt_of_heap hx
    have hyz := lt_of_heap i3
    have hb2 := kx_heap i2 (unhide HC2) hl2.1 hl2.2
    have hbz2 := lt_of_heap hb2
    have c1 : W.cell? ⟨Bh, 0, none⟩ = some (.func (.func hf) hfs hc) := by rw [rcell hb2]; rfl
    have x0 : W.cell? ⟨Bx, 0, none⟩ = some (.iface (tk x).jt (.agg #[.int .i64 (tk x).s.t, .int .i64 (tk x).s.ser, .int .i64 (tk x).s.win])) := by rw [rcell hx]; rfl
    have x1 : W.cell? ⟨Bx, 1, none⟩ = some (.int .i64 (tk x).since) := by rw [rcell hx]; rfl
    have x2 : W.cell? ⟨Bx, 2, none⟩ = some (.int .i64 (tk x).tries) := by rw [rcell hx]; rfl
    have x3 : W.cell? ⟨Bx, 3, none⟩ = some (.int .i64 (tk x).rest) := by rw [rcell hx]; rfl
    have HC := hide (unhide HOF x W ⟨_, i2⟩)
    have HI1 := hide i1
    have HI2 := hide i2
    have HI3 := hide i3
    have HX := hide hx
    have HHR := hide hr
    have hlf := filter_len p pre
    have ecall := unhide HEH
    clear i1 i2 i3 hx hr hb2
    obtain ⟨bx, hbx⟩ : ∃ bx, p x = bx := ⟨_, rfl⟩
    rw [hbx] at HC
    have HPX := hide hbx
    clear hbx
    cases bx with
    | false =>
      gi_wp2
      refine ⟨trivial, (CallsIn.inRound l' (callsIn_wide.2 (unhide HC))).mono ?_⟩
      rintro e W1 ⟨rfl, hb1⟩
      have HB1 := hide hb1
      clear hb1
      gi_wp2
      refine ⟨fun _ h => (by cases h), ?_⟩
      gi_wp2
      exact ⟨keepsFrom_below (unhide HB1), KX.of_below (unhide HB1), by rw [filter_snoc_false (unhide HPX)]; exact own_below (unhide HJ) (unhide HI1) (unhide HB1), (unhide HI2).trans (KX.of_below (unhide HB1)), ((unhide HB1).block _ hyz).trans (unhide HI3)⟩
    | true =>
      gi_wp2
      refine ⟨trivial, (CallsIn.inRound l' (callsIn_wide.2 (unhide HC))).mono ?_⟩
      rintro e W1 ⟨rfl, hb1⟩
      have hx1 := (hb1.block _ hBz).trans (unhide HX)
      have hy1 := (hb1.block _ hyz).trans (unhide HI3)
      have y0 : W1.cell? ⟨W0.heap.size, 0, none⟩ = some (.func (.yield l) #[] #[]) := by rw [rcell hy1]; rfl
      have z0 : W1.cell? ⟨Bx, 0, none⟩ = some (.iface (tk x).jt (.agg #[.int .i64 (tk x).s.t, .int .i64 (tk x).s.ser, .int .i64 (tk x).s.win])) := by rw [rcell hx1]; rfl
      have z1 : W1.cell? ⟨Bx, 1, none⟩ = some (.int .i64 (tk x).since) := by rw [rcell hx1]; rfl
      have z2 : W1.cell? ⟨Bx, 2, none⟩ = some (.int .i64 (tk x).tries) := by rw [rcell hx1]; rfl
      have z3 : W1.cell? ⟨Bx, 3, none⟩ = some (.int .i64 (tk x).rest) := by rw [rcell hx1]; rfl
      have HHY1 := hide hy1
      have HB1 := hide hb1
      have hJ1 := own_below (unhide HJ) (unhide HI1) hb1
      obtain ⟨fn, tmps, assign, body, hy, hR⟩ := yield_deep (m' := 4) rfl (unhide HY (pre.filter p) x W1 hJ1 (by omega))
      have hs1 := hb1.size
      clear hb1 hx1 hy1 hJ1
      gi_wp2
      refine RoundIn.mono (F := Fence.wide.inRound l') hR ?_
      rintro e W2 (⟨rfl, hJ2, hk2⟩ | ⟨rfl, hJx2, hk2⟩)
      · have hk12 : KX ex n (V0.heap.size + 2) W W2 := (KX.of_below (unhide HB1)).trans (hk2.wider (by omega))
        have hkf : KeepsFrom V0.heap.size W W2 := (keepsFrom_below (unhide HB1)).trans (hk2.from (by omega))
        have hy2 := hk2.high _ _ (by omega) (unhide HHY1)
        have HK12 := hide hk12
        have HKF := hide hkf
        have HY2 := hide hy2
        have HJ2 := hide hJ2
        clear hk12 hkf hy2 hJ2 hk2
        gi_wp2
        exact ⟨unhide HKF, unhide HK12, by rw [filter_snoc_true (unhide HPX)]; exact unhide HJ2, (unhide HI2).trans (unhide HK12), unhide HY2⟩
      · have hk12 : KX ex n (V0.heap.size + 2) W W2 := (KX.of_below (unhide HB1)).trans (hk2.wider (by omega))
        have hkf : KeepsFrom V0.heap.size W W2 := (keepsFrom_below (unhide HB1)).trans (hk2.from (by omega))
        have HK12 := hide hk12
        have HKF := hide hkf
        have HJ2 := hide hJx2
        clear hk12 hkf hJx2 hk2
        gi_wp2
        exact ⟨unhide HKF, unhide HK12, rfl, _, unhide HJ2⟩
  case done =>
    rintro D xs W hD hS ⟨i1, i2, i3⟩ hK
    have HJD := hide (OwnFrom.putObj (unhide HJ) (.deferred none) i1 (by omega) hK rfl)
    clear i1 i2 i3
    gi_wp2
    refine ⟨by simp, .inl ⟨_, _, rfl, run_takeDeferred hK, ?_⟩⟩
    exact ⟨_, results_none rfl _ _ _, ⟨_, rfl⟩, .inl ⟨_, ⟨xs, hS, rfl⟩, unhide HJD⟩⟩
  case stop =>
    rintro D c pre W hD hS ⟨rfl, q, hq⟩ hK
    have HJD := hide (OwnFrom.putObj (unhide HJx) (.deferred none) hq (by omega) hK rfl)
    clear hq
    gi_wp2
    refine ⟨by simp, .inl ⟨_, _, rfl, run_takeDeferred hK, ?_⟩⟩
    exact ⟨_, results_none rfl _ _ _, ⟨_, rfl⟩, .inr ⟨_, trivial, unhide HJD⟩⟩
end Go.Proofs.YtpbimdkclnekeaaGreat
