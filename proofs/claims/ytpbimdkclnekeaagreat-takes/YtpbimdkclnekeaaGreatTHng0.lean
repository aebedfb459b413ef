import Derived.Test.YtpbimdkclnekeaaGreatTCnt0
import Derived.Deep.RegionHeld3

namespace Go.Proofs.YtpbimdkclnekeaaGreat
open Value (int)
open IntKind (i64)
open Go.RowKit Go.Maps Go.Shelf
set_option linter.unusedVariables false
attribute [local go_sem] Oper.semAt_some
def hangL (c : Cf) (k : Sg) : List Sg := (aboL c k.t (k.win * c.width k.t) c.n).map (fun p => ⟨p.1, k.ser, p.2⟩)
noncomputable def pairSg (ser : Int) (p : WP) : WSg := wSeg ⟨p.1.1, ser, p.1.2⟩
theorem pairSg_val {ser : Int} (h : i64B ser) (p : WP) : (pairSg ser p).1 = ⟨p.1.1, ser, p.1.2⟩ := wSeg_val ⟨p.2.1, h, p.2.2⟩
structure HR (W : World) (Bp Bk s : Nat) (k : Sg) (c : Cf) (tv : Value) (lb gb : Nat) : Prop where
 bp : W.heap[Bp]? = some (.cells #[.pointer (some ⟨s, 0, none⟩)] 81 (0, 0))
 bk : W.heap[Bk]? = some (.cells #[int i64 k.t, int i64 k.ser, int i64 k.win] 137 (0, 0))
 hd : HeadAt W s c tv lb gb
theorem HR.later {W W' : World} {Bp Bk s : Nat} {k : Sg} {c : Cf} {tv : Value} {lb gb : Nat} (h : HR W Bp Bk s k c tv lb gb) (hb : Below W.heap.size W W') : HR W' Bp Bk s k c tv lb gb :=
 ⟨(hb.block _ (zaa h.bp)).trans h.bp, (hb.block _ (zaa h.bk)).trans h.bk, h.hd.later hb⟩
theorem HR.kx {ex : Nat -> Prop} {n m : Nat} {W W' : World} {Bp Bk s : Nat} {k : Sg} {c : Cf} {tv : Value} {lb gb : Nat} (h : HR W Bp Bk s k c tv lb gb) (hk : KX ex n m W W') (h1 : Bp < n /\ ¬ ex Bp) (h2 : Bk < n /\ ¬ ex Bk) (h3 : s < n /\ ¬ ex s) (h4 : ∀ g, tv.ownBlock = some g -> g < n /\ ¬ ex g) : HR W' Bp Bk s k c tv lb gb :=
 ⟨zdg hk h.bp h1.1 h1.2, zdg hk h.bk h2.1 h2.2, h.hd.kept hk.kept (fun e => e.elim h3.2 (by omega)) (fun g hg e => by have := h4 g hg; exact e.elim this.2 (by omega))⟩
theorem HR.kept {f : Nat -> Prop} {W W' : World} {Bp Bk s : Nat} {k : Sg} {c : Cf} {tv : Value} {lb gb : Nat} (h : HR W Bp Bk s k c tv lb gb) (hk : zan f W W') (h1 : ¬ f Bp) (h2 : ¬ f Bk) (h3 : ¬ f s) (h4 : ∀ g, tv.ownBlock = some g -> ¬ f g) : HR W' Bp Bk s k c tv lb gb :=
 ⟨hk.heap h.bp h1, hk.heap h.bk h2, h.hd.kept hk h3 h4⟩
theorem TS.same {A B : World} {a : Option Addr} {n : Nat} {F W K : Nat -> Int} (h : TS A a n F W K) (hs : A.heap.size <= B.heap.size) (hb : ∀ b off, a = some ⟨b, off, none⟩ -> B.heap[b]? = A.heap[b]?) : TS B a n F W K := fun h0 => by
 obtain ⟨b, off, e, hl, hc⟩ := h h0
 have hq : ∀ o, B.cell? ⟨b, o, none⟩ = A.cell? ⟨b, o, none⟩ := fun o => by unfold World.cell?; rw [hb b off e]
 exact ⟨b, off, e, by omega, fun i hi => by rw [hq, hq, hq]; exact hc i hi⟩
theorem hangOn_any (s : Nat) (k : Sg) (w : World) :
  Calls Tryz.prog 151 #[.pointer (some ⟨s, 0, none⟩), .agg #[int i64 k.t, int i64 k.ser, int i64 k.win]] w fun e w' => e = .returned (.func (.func 196) #[] #[.pointer (some ⟨w.heap.size, 0, none⟩), .pointer (some ⟨w.heap.size + 1, 0, none⟩)]) /\ w' = (w.alloc (.cells #[.pointer (some ⟨s, 0, none⟩)] 81)).alloc (.cells #[int i64 k.t, int i64 k.ser, int i64 k.win] 137) := by
 go_enter Tryz.func151, Tryz.ntmps151
 go_wp2_with fail
 go_ret
 exact ⟨rfl, rfl⟩
structure KY (ex : Nat -> Prop) (n m l : Nat) (A B : World) : Prop where
 kept : zan (fun k => ex k \/ n <= k) A B
 walk : ∀ k o, ¬ ex k -> A.heap[k]? = some o -> o.isWalk = true -> B.heap[k]? = some o
 high : ∀ k o, k ≠ l -> m <= k -> A.heap[k]? = some o -> B.heap[k]? = some o
theorem KY.trans {ex : Nat -> Prop} {n m l : Nat} {A B C : World} (h : KY ex n m l A B) (k : KY ex n m l B C) : KY ex n m l A C := ⟨h.kept.trans k.kept (fun _ _ h => h), fun i o hx hi ho => k.walk i o hx (h.walk i o hx hi ho) ho, fun i o hl hx hi => k.high i o hl hx (h.high i o hl hx hi)⟩
theorem KX.y {ex : Nat -> Prop} {n m : Nat} {A B : World} (h : KX ex n m A B) (l : Nat) : KY ex n m l A B := ⟨h.kept, h.walk, fun k o _ => h.high k o⟩
theorem KY.putObj {ex : Nat -> Prop} {n m l : Nat} {W : World} {o : Obj} (o' : Obj) (hl : n <= l) (h : W.heap[l]? = some o) (ho : o.isWalk = false) : KY ex n m l W (W.putObj l o') :=
 ⟨(zan.refl _ _).grown (grownBy_putObj' W l o') (fun k e _ => by cases e; exact .inr hl), fun k p hx hk hp => by
  by_cases e : k = l
  ·subst e; rw [h] at hk; cases hk; rw [ho] at hp; cases hp
  ·exact (World.putObj_heap_other e).trans hk, fun k p hl hx hk => (World.putObj_heap_other hl).trans hk⟩
set_option maxRecDepth 100000 in
set_option maxHeartbeats 4000000 in
theorem hang_seq {ex : Nat -> Prop} {n : Nat} (Bp Bk s : Nat) (k : Sg) (c : Cf) (hc : c.ok) (tv : Value) (lb gb : Nat) (hk1 : -1 <= k.t) (hk2 : k.t < c.n) (hk3 : 0 <= k.win /\ k.win <= 100000) (hk4 : i64B k.ser) (w : World) (hn : n <= w.heap.size) (hR : HR w Bp Bk s k c tv lb gb)
  (h1 : Bp < n /\ ¬ ex Bp) (h2 : Bk < n /\ ¬ ex Bk) (h3 : s < n /\ ¬ ex s) (h4 : ∀ g, tv.ownBlock = some g -> g < n /\ ¬ ex g) :
  SeqF ex n Tryz.prog 196 #[.pointer (some ⟨Bp, 0, none⟩), .pointer (some ⟨Bk, 0, none⟩)] (fun x : WSg => #[.agg #[int i64 x.1.t, int i64 x.1.ser, int i64 x.1.win]]) (fun xs => xs = ((aboL c k.t (k.win * c.width k.t) c.n).map wPair).map (pairSg k.ser)) c.n w := by
 intro m hm l J Jx W0 hW hm0 hJ hJx hY h0
 have hR0 := hR.later hW
 obtain ⟨a, cap, rfl⟩ := zah hR.hd.trow
 have hwz := hW.size
 have hb1 : Below W0.heap.size W0 (W0.alloc (.cells #[.func (.yield l) #[] #[]] 226)) := (Below.refl _ _).alloc (Nat.le_refl _) _
 have hyb := zap W0 (.cells #[.func (.yield l) #[] #[]] 226)
 have hsz := zbd W0 (.cells #[.func (.yield l) #[] #[]] 226)
 have hR1 := hR0.later hb1
 have hJ1 := zcr hJ h0 hb1
 have hWb := hW.trans (hb1.mono hwz)
 have hst : 0 <= k.win * c.width k.t /\ k.win * c.width k.t <= 1000000000 := by
  obtain ⟨hw1, hw2⟩ := hc.width hk1 hk2
  constructor
  ·exact Int.mul_nonneg (by omega) (by omega)
  ·have := Int.mul_le_mul (show k.win <= 100000 by omega) hw2 (by omega) (by omega); omega
 have HAB := zab (labove_any c hc a cap k.t k.win hk1 hk2 hk3 _ (TS.of_owns hR1.hd.trow))
 have HABD := zab (labove_any c hc a cap k.t k.win hk1 hk2 hk3 (W0.alloc (.cells #[.func (.yield l) #[] #[]] 226)).drew (TS.of_owns hR1.hd.trow))
 obtain ⟨c0, c1, c2, c3, c4, c5, c6, -, -⟩ := hR1.hd.cells
 have hsl := hR1.hd.lt
 have p0 : (W0.alloc (.cells #[.func (.yield l) #[] #[]] 226)).cell? ⟨Bp, 0, none⟩ = some (.pointer (some ⟨s, 0, none⟩)) := by rw [zac hR1.bp]; rfl
 have k0 : (W0.alloc (.cells #[.func (.yield l) #[] #[]] 226)).cell? ⟨Bk, 0, none⟩ = some (int i64 k.t) := by rw [zac hR1.bk]; rfl
 have k2 : (W0.alloc (.cells #[.func (.yield l) #[] #[]] 226)).cell? ⟨Bk, 2, none⟩ = some (int i64 k.win) := by rw [zac hR1.bk]; rfl
 have hBp := zaa hR1.bp
 have hBk := zaa hR1.bk
 have HC := zab hc
 have HR1 := zab hR1
 have HYB := zab hyb
 have HSZ := zab hsz
 have HJ1 := zab hJ1
 have HJ := zab hJ
 have HJx := zab hJx
 have HY := zab hY
 have HWB := zab hWb
 have HK4 := zab hk4
 clear hR hR0 hR1 hyb hsz hJ1 hJ hJx hY hb1 hWb hc h0 hk4
 refine callsIn_wide.2 ((callsIn_wide (n := 7)).1 ?_)
 refine callsIn_of_wp_marks Tryz.func196 rfl trivial ?_ rfl
 simp only [Tryz.ntmps196, List.size_toArray, List.length_cons, List.length_nil, Nat.reduceAdd, Nat.reduceSub, Array.replicate_succ, Array.replicate_zero, List.push_toArray, List.append_toArray, List.nil_append, List.cons_append]
 refine wpIn_wide.2 ?_
 go_wp2_with fail
 generalize (W0.alloc (.cells #[.func (.yield l) #[] #[]] 226)) = X at *
 go_region_held3 (fun w' => w'.cell? ⟨Bp, 0, none⟩ = some (.pointer (some ⟨s, 0, none⟩)) /\ w'.cell? ⟨s, 0, none⟩ = some (int i64 c.s) /\ w'.cell? ⟨s, 1, none⟩ = some (int i64 c.le) /\ w'.cell? ⟨s, 2, none⟩ = some (int i64 c.la) /\ w'.cell? ⟨s, 3, none⟩ = some (int i64 c.wi) /\ w'.cell? ⟨s, 4, none⟩ = some (int i64 c.ke) /\ w'.cell? ⟨s, 5, none⟩ = some (int i64 c.qu) /\ w'.cell? ⟨s, 6, none⟩ = some (.slice a c.n cap) /\ w'.cell? ⟨Bk, 0, none⟩ = some (int i64 k.t) /\ w'.cell? ⟨Bk, 2, none⟩ = some (int i64 k.win)) (go_keep) (first
  | (go_at_call 197; (first | refine (ud HAB).mono ?_ | refine (ud HABD).mono ?_); rintro e V1 ⟨Bs, rfl, hAR, hBs, hbV⟩; have d0 := (hbV.cell (p := ⟨Bp, 0, none⟩) hBp).trans p0; have d1 := (hbV.cell (p := ⟨s, 0, none⟩) hsl).trans c0; have d2 := (hbV.cell (p := ⟨s, 1, none⟩) hsl).trans c1; have d3 := (hbV.cell (p := ⟨s, 2, none⟩) hsl).trans c2; have d4 := (hbV.cell (p := ⟨s, 3, none⟩) hsl).trans c3; have d5 := (hbV.cell (p := ⟨s, 4, none⟩) hsl).trans c4; have d6 := (hbV.cell (p := ⟨s, 5, none⟩) hsl).trans c5; have d7 := (hbV.cell (p := ⟨s, 6, none⟩) hsl).trans c6; have d8 := (hbV.cell (p := ⟨Bk, 0, none⟩) hBk).trans k0; have d9 := (hbV.cell (p := ⟨Bk, 2, none⟩) hBk).trans k2; have HAR := zab hAR; have HBV := zab hbV; clear hAR hbV))
 go_wp2_with fail
 have hzX : X.heap.size = W0.heap.size + 1 := ud HSZ
 have hV : Below X.heap.size X V1 := ⟨(ud HBV).os, (ud HBV).tape, (ud HBV).output, (ud HBV).size, (ud HBV).block⟩
 have hAR : AR V1 X.heap.size Bs c a cap k.t (k.win * c.width k.t) := ud HAR
 have hBs' : X.heap.size <= Bs := hBs
 have hVz := hV.size
 have HV := zab hV
 have HARV := zab hAR
 have HB0 := zab ((ud HWB).trans (hV.mono (ud HWB).size))
 have HJV := zab (zcr (ud HJ) (ud HJ1) ⟨hV.os, hV.tape, hV.output, hV.size, hV.block⟩)
 have HRV := zab ((ud HR1).later hV)
 have HYV := zab ((hV.block _ (by omega)).trans (ud HYB))
 obtain ⟨g, cap', hgv, hgb, hgl⟩ := (ud HRV).hd.trow.form (by have := (ud HC).n1; omega)
 have hag : a = some ⟨g, 0, none⟩ := by injection hgv
 have hg4 := h4 g (by rw [hag]; rfl)
 have hx1 := zaa (ud HARV).b1
 have hx2 := zaa (ud HARV).b2
 have hmV : m <= V1.heap.size := by omega
 have hWV : W0.heap.size < V1.heap.size := by omega
 clear d0 d1 d2 d3 d4 d5 d6 d7 d8 d9 c0 c1 c2 c3 c4 c5 c6 p0 k0 k2 hgv hBs hAR hV
 refine (wpIn_wide (n := 7)).1 ?_
 refine range_O (F := Fence.wide) (n := 7) (m := 0) rfl (by omega) (gf := 220) (lb := #[.pointer (some ⟨X.heap.size, 0, none⟩), .pointer (some ⟨X.heap.size + 1, 0, none⟩), .pointer (some ⟨Bs, 0, none⟩)]) rfl trivial above_enters
  (above_seq X.heap.size Bs c (ud HC) a cap k.t (k.win * c.width k.t) hst (KY ex n m (V1.heap.size + 1)) (fun A B hk hA => ⟨hk.high _ _ (by omega) (by omega) hA.b0, hk.high _ _ (by omega) (by omega) hA.b1, hk.high _ _ (by have := zaa (ud HARV).b2; omega) (by omega) hA.b2, TS.same hA.ts hk.kept.size (fun b off e => by rw [hag] at e; injection e with e; injection e with e1 e2; subst e1; exact hk.kept.block _ (by have := hA.ts; obtain ⟨b', o', e3, h5, _⟩ := this (by have := (ud HC).n1; omega); rw [hag] at e3; injection e3 with e3; injection e3 with e3 _; rw [e3]; exact h5) (fun e => e.elim hg4.2 (by omega)))⟩) (fun A B hk => hk.kept.size) 0 V1 (ud HARV)) (Nat.zero_le _) (fun h k => h.trans k) (fun W o o' h hc hw => KY.putObj o' (by omega) h hw) (Below.refl _ _) (fun _ => rfl)
  (fun pre W => J (pre.map (pairSg k.ser)) W /\ HR W Bp Bk s k c (.slice a c.n cap) lb gb /\ W.heap[W0.heap.size]? = some (.cells #[.func (.yield l) #[] #[]] 226 (0, 0)) /\ V1.heap.size <= W.heap.size)
  (fun c pre W => c = .ret /\ ∃ q, Jx q W)
  (fun s A B row hs hg hr => ⟨ud HJ _ A B row hs.1 hg (fun r e => ⟨by have := (hr r e).1; omega, (hr r e).2⟩), hs.2.1.kept (f := fun k => V1.heap.size <= k) ⟨hg.os, hg.tape, hg.output, hg.size, fun k hk hn => hg.block k hk (fun e => hn (hr k e.symm).1)⟩ (by have := h1.1; omega) (by have := h2.1; omega) (by have := h3.1; omega) (fun g hh => by have := (h4 g hh).1; omega), zbc hs.2.2.1 hg (fun r e => (hr r e).2), Nat.le_trans hs.2.2.2 hg.size⟩)
  (fun c s A B row hs hg hr => ⟨hs.1, by obtain ⟨q, hq⟩ := hs.2; exact ⟨q, ud HJx q A B row hq hg (fun r e => ⟨by have := (hr r e).1; omega, (hr r e).2⟩)⟩⟩)
  ⟨ud HJV, ud HRV, ud HYV, Nat.le_refl _⟩
  (fun x a' W => a' = { tmps := #[.func (.yield l) #[] #[], .pointer (some ⟨Bp, 0, none⟩), .pointer (some ⟨Bk, 0, none⟩), .pointer (some ⟨W0.heap.size, 0, none⟩), int i64 x.1.1, int i64 x.1.2, .pointer (some ⟨s, 0, none⟩), .pointer (some ⟨s, 0, none⟩), .pointer (some ⟨s, 0, none⟩), .agg #[int i64 c.s, int i64 c.le, int i64 c.la, int i64 c.wi, int i64 c.ke, int i64 c.qu, .slice a c.n cap], .pointer (some ⟨Bk, 0, none⟩), int i64 k.t, .pointer (some ⟨Bk, 2, none⟩), int i64 k.win, .func (.func 220) #[] #[.pointer (some ⟨X.heap.size, 0, none⟩), .pointer (some ⟨X.heap.size + 1, 0, none⟩), .pointer (some ⟨Bs, 0, none⟩)], int i64 x.1.1, int i64 x.1.2, undef, undef, undef, undef, undef, undef, undef, undef], defers := [] })
  (fun x a' s A B row hs hg hr => hs) ?assign ?body ?done ?stop
 case assign =>
  rintro l' pre x W K hi hK
  have HK := zab hK
  have HI := zab hi
  clear hK hi hzX hag
  gi_wp2
  exact ud HK _ _ (KeepsFrom.refl _ _) ((KX.refl _ _ _ _).y _) (ud HI) rfl
 case body =>
  rintro l' pre x a' W hl ⟨r, hr⟩ ⟨i1, i2, i3, i4⟩ rfl hlen
  have hbk := zaa i2.bk
  have hyz := zaa i3
  have k1 : W.cell? ⟨Bk, 1, none⟩ = some (int i64 k.ser) := by rw [zac i2.bk]; rfl
  have y0 : W.cell? ⟨W0.heap.size, 0, none⟩ = some (.func (.yield l) #[] #[]) := by rw [zac i3]; rfl
  obtain ⟨fn, tmps, assign, body, hy, hR⟩ := yield_deep (m' := 4) rfl (ud HY (pre.map (pairSg k.ser)) (pairSg k.ser x) W i1 (by rw [List.length_map]; exact hlen))
  rw [pairSg_val (ud HK4)] at hy
  dsimp only at hy
  have HI2 := zab i2
  have HI3 := zab i3
  clear i1 i2 i3 hr hzX hag
  gi_wp2
  refine RoundIn.mono (F := Fence.wide.inRound l') hR ?_
  rintro e W2 (⟨rfl, hJ2, hk2⟩ | ⟨rfl, hJx2, hk2⟩)
  ·have HKF := zab (hk2.from (q := V1.heap.size) (by omega))
   have HKY := zab (hk2.y (V1.heap.size + 1))
   have HR2 := zab ((ud HI2).kx hk2 h1 h2 h3 h4)
   have HY2 := zab (hk2.high _ _ (by omega) (ud HI3))
   have hz2 := hk2.kept.size
   have HJ2 := zab hJ2
   clear hJ2 hk2
   gi_wp2
   exact ⟨ud HKF, ud HKY, by rw [List.map_append, List.map_singleton]; exact ud HJ2, ud HR2, ud HY2, by omega⟩
  ·have HKF := zab (hk2.from (q := V1.heap.size) (by omega))
   have HKY := zab (hk2.y (V1.heap.size + 1))
   have HJ2 := zab hJx2
   clear hJx2 hk2
   gi_wp2
   exact ⟨ud HKF, ud HKY, rfl, _, ud HJ2⟩
 case done =>
  rintro D xs W hD hS ⟨i1, -, -, -⟩ hK
  have HJD := zab (OwnFrom.putObj (ud HJ) (.deferred none) i1 (by omega) hK rfl)
  subst hS
  clear i1
  gi_wp2
  refine ⟨by simp, .inl ⟨_, _, rfl, run_takeDeferred hK, ?_⟩⟩
  exact ⟨_, results_none rfl _ _ _, ⟨_, rfl⟩, .inl ⟨_, rfl, ud HJD⟩⟩
 case stop =>
  rintro D c pre W hD hS ⟨rfl, q, hq⟩ hK
  have HJD := zab (OwnFrom.putObj (ud HJx) (.deferred none) hq (by omega) hK rfl)
  clear hq
  gi_wp2
  refine ⟨by simp, .inl ⟨_, _, rfl, run_takeDeferred hK, ?_⟩⟩
  exact ⟨_, results_none rfl _ _ _, ⟨_, rfl⟩, .inr ⟨_, trivial, ud HJD⟩⟩
theorem hang_enters : ∀ args w, (callFunc 196 args).run Tryz.prog w = .ok (.enter 196 args) w := enters_of Tryz.func196 (by kernel_rfl) rfl
def rollB (c : Cf) (Bl : List (Sg × Unit)) (L : LV) (now : Int) (k : Sg) : Bool := (zbm Bl k).isNone && ((stL L k).st == 2) && decide ((k.win + 1) * c.width k.t <= now - c.la)
set_option maxHeartbeats 4000000 in
theorem rollable1_any {w : World} {s : Nat} {c : Cf} {tv : Value} {lb gb : Nat} {Gl : List (Sg × Unit)} {L : LV} (h : zda w s c tv lb gb Gl L) (hc : c.ok) {ob : Nat} {Bl : List (Sg × Unit)} (hob : zce goneM w ob Bl) (k : Sg) (hk : k.wf) (hk1 : -1 <= k.t) (hk2 : k.t < c.n) (hk3 : 0 <= k.win /\ k.win <= 100000) (now : Int) (hnow : 0 <= now /\ now <= 100000)
  (Bb Bp Bn : Nat) (b1 : w.cell? ⟨Bb, 0, none⟩ = some (.map (some ob))) (b2 : w.cell? ⟨Bp, 0, none⟩ = some (.pointer (some ⟨s, 0, none⟩))) (b3 : w.cell? ⟨Bn, 0, none⟩ = some (int i64 now)) (l1 : Bb < w.heap.size) (l2 : Bp < w.heap.size) (l3 : Bn < w.heap.size) :
  Calls Tryz.prog 146 #[.agg #[int i64 k.t, int i64 k.ser, int i64 k.win], .pointer (some ⟨Bb, 0, none⟩), .pointer (some ⟨Bp, 0, none⟩), .pointer (some ⟨Bn, 0, none⟩)] w fun e w' => e = .returned (.bool (rollB c Bl L now k)) /\ Below w.heap.size w w' := by
 obtain ⟨a, cap, rfl⟩ := zah h.trow
 have hsl := h.lt
 have hb1 : Below w.heap.size w (w.alloc (.cells #[int i64 k.t, int i64 k.ser, int i64 k.win] 137)) := (Below.refl _ _).alloc (Nat.le_refl _) _
 have y0 := zap w (.cells #[int i64 k.t, int i64 k.ser, int i64 k.win] 137)
 have yz := zbd w (.cells #[int i64 k.t, int i64 k.ser, int i64 k.win] 137)
 obtain ⟨c0, c1, c2, c3, c4, c5, c6, -, -⟩ := h.cells
 have HWT := fun W hW => zab (pwaits_any (h.later (w' := W) hW) k hk)
 have HCL := fun W hW => zab (lclosed_any c hc a cap k.t k.win now hk1 hk2 hk3 hnow W ((TS.of_owns h.trow).below (w' := W) hW))
 obtain ⟨v, hv⟩ : ∃ v, stL L k = v := ⟨_, rfl⟩
 obtain ⟨d, hd⟩ : ∃ d, decide ((k.win + 1) * c.width k.t <= now - c.la) = d := ⟨_, rfl⟩
 have HRB : Hid (rollB c Bl L now k = ((zbm Bl k).isNone && (v.st == 2) && d)) := by show rollB c Bl L now k = _; unfold rollB; rw [hv, hd]
 rw [ud HRB]
 rw [hv] at HWT
 rw [hd] at HCL
 have HG := fun X hX => run_lookM gone_ok true (hob.later (w' := X) hX) hk
 clear h hob hc hv hd
 cases hg : zbm Bl k with
 | some u =>
  have g0 : ∀ X, Below w.heap.size w X -> (Instr.lookup 138 (.map (some ob)) (.agg #[int i64 k.t, int i64 k.ser, int i64 k.win]) true).run Tryz.prog X = .ok (.tuple #[.agg #[], .bool true]) X := fun X hX => by have := HG X hX; rw [hg] at this; exact this
  have q0 := g0 _ hb1
  have k0 : (w.alloc (.cells #[int i64 k.t, int i64 k.ser, int i64 k.win] 137)).cell? ⟨w.heap.size, 0, none⟩ = some (int i64 k.t) := by rw [zac y0]; rfl
  have k1 : (w.alloc (.cells #[int i64 k.t, int i64 k.ser, int i64 k.win] 137)).cell? ⟨w.heap.size, 1, none⟩ = some (int i64 k.ser) := by rw [zac y0]; rfl
  have k2 : (w.alloc (.cells #[int i64 k.t, int i64 k.ser, int i64 k.win] 137)).cell? ⟨w.heap.size, 2, none⟩ = some (int i64 k.win) := by rw [zac y0]; rfl
  have m1 := (hb1.cell (p := ⟨Bb, 0, none⟩) l1).trans b1
  have hb2 : Below (w.heap.size + 1) (w.alloc (.cells #[int i64 k.t, int i64 k.ser, int i64 k.win] 137)) ((w.alloc (.cells #[int i64 k.t, int i64 k.ser, int i64 k.win] 137)).alloc (.cells #[] 221)) := (Below.refl _ _).alloc (by rw [yz]; omega) _
  have hbX : Below w.heap.size w ((w.alloc (.cells #[int i64 k.t, int i64 k.ser, int i64 k.win] 137)).alloc (.cells #[] 221)) := hb1.trans (hb2.mono (by omega))
  have hzX : ((w.alloc (.cells #[int i64 k.t, int i64 k.ser, int i64 k.win] 137)).alloc (.cells #[] 221)).heap.size = w.heap.size + 2 := by rw [zbd, yz]
  have y2 := (hb2.block w.heap.size (by omega)).trans y0
  have z0 : ((w.alloc (.cells #[int i64 k.t, int i64 k.ser, int i64 k.win] 137)).alloc (.cells #[] 221)).cell? ⟨w.heap.size, 0, none⟩ = some (int i64 k.t) := by rw [zac y2]; rfl
  have z1 : ((w.alloc (.cells #[int i64 k.t, int i64 k.ser, int i64 k.win] 137)).alloc (.cells #[] 221)).cell? ⟨w.heap.size, 1, none⟩ = some (int i64 k.ser) := by rw [zac y2]; rfl
  have z2 : ((w.alloc (.cells #[int i64 k.t, int i64 k.ser, int i64 k.win] 137)).alloc (.cells #[] 221)).cell? ⟨w.heap.size, 2, none⟩ = some (int i64 k.win) := by rw [zac y2]; rfl
  have n2 := (hbX.cell (p := ⟨Bp, 0, none⟩) l2).trans b2
  have n3 := (hbX.cell (p := ⟨Bn, 0, none⟩) l3).trans b3
  have s0 := (hbX.cell (p := ⟨s, 0, none⟩) hsl).trans c0
  have s1 := (hbX.cell (p := ⟨s, 1, none⟩) hsl).trans c1
  have s2 := (hbX.cell (p := ⟨s, 2, none⟩) hsl).trans c2
  have s3 := (hbX.cell (p := ⟨s, 3, none⟩) hsl).trans c3
  have s4 := (hbX.cell (p := ⟨s, 4, none⟩) hsl).trans c4
  have s5 := (hbX.cell (p := ⟨s, 5, none⟩) hsl).trans c5
  have s6 := (hbX.cell (p := ⟨s, 6, none⟩) hsl).trans c6
  have HBX := zab hbX
  have HZX := zab hzX
  clear HG g0 hb1 y0 yz b1 b2 b3 hb2 hbX y2 hzX c0 c1 c2 c3 c4 c5 c6
  go_enter Tryz.func146, Tryz.ntmps146
  go_wp2_with fail
  have r1 : w.heap.size < w.heap.size + 2 := by omega
  have r2 : Bp < w.heap.size + 2 := by omega
  have r3 : Bn < w.heap.size + 2 := by omega
  have r4 : s < w.heap.size + 2 := by omega
  have HNL : Hid (w.heap.size <= w.heap.size + 2) := by show w.heap.size <= w.heap.size + 2; omega
  clear k0 k1 k2 m1 q0
  generalize ((w.alloc (.cells #[int i64 k.t, int i64 k.ser, int i64 k.win] 137)).alloc (.cells #[] 221)) = X at *
  generalize w.heap.size + 2 = N at *
  have HNX : Hid (N <= X.heap.size) := by show N <= X.heap.size; rw [ud HZX]; exact Nat.le_refl _
  have hne : Nonempty (zaf N X) := zaf.some _ _
  have hlc := fun (u : zaf N X) b o h => u.cell b o h
  refine zad N (by kernel_rfl) (by kernel_rfl) ?_
  repeat (go_big_quiet_step (first
   | (go_at_call 147; exact Calls.later (ud HNX) (ud (HWT _ ((ud HBX).trans (Below.mono (Subtype.property _) (ud HNL))))))
   | (go_at_call 118; exact Calls.later (ud HNX) (ud (HCL _ ((ud HBX).trans (Below.mono (Subtype.property _) (ud HNL))))))))
  refine wpQuiet_nil ?_
  rintro ⟨w1, hb1⟩
  clear hlc hne
  dsimp only
  go_wp2_with fail
  go_ret
  exact ⟨rfl, (ud HBX).trans (hb1.mono (ud HNL))⟩
 | none =>
  have g0 : ∀ X, Below w.heap.size w X -> (Instr.lookup 138 (.map (some ob)) (.agg #[int i64 k.t, int i64 k.ser, int i64 k.win]) true).run Tryz.prog X = .ok (.tuple #[.agg #[], .bool false]) X := fun X hX => by have := HG X hX; rw [hg] at this; exact this
  cases hst : (v.st == 2) with
  | false =>
   rw [hst] at HWT
   clear hst
   have q0 := g0 _ hb1
   have k0 : (w.alloc (.cells #[int i64 k.t, int i64 k.ser, int i64 k.win] 137)).cell? ⟨w.heap.size, 0, none⟩ = some (int i64 k.t) := by rw [zac y0]; rfl
   have k1 : (w.alloc (.cells #[int i64 k.t, int i64 k.ser, int i64 k.win] 137)).cell? ⟨w.heap.size, 1, none⟩ = some (int i64 k.ser) := by rw [zac y0]; rfl
   have k2 : (w.alloc (.cells #[int i64 k.t, int i64 k.ser, int i64 k.win] 137)).cell? ⟨w.heap.size, 2, none⟩ = some (int i64 k.win) := by rw [zac y0]; rfl
   have m1 := (hb1.cell (p := ⟨Bb, 0, none⟩) l1).trans b1
   have hb2 : Below (w.heap.size + 1) (w.alloc (.cells #[int i64 k.t, int i64 k.ser, int i64 k.win] 137)) ((w.alloc (.cells #[int i64 k.t, int i64 k.ser, int i64 k.win] 137)).alloc (.cells #[] 221)) := (Below.refl _ _).alloc (by rw [yz]; omega) _
   have hbX : Below w.heap.size w ((w.alloc (.cells #[int i64 k.t, int i64 k.ser, int i64 k.win] 137)).alloc (.cells #[] 221)) := hb1.trans (hb2.mono (by omega))
   have hzX : ((w.alloc (.cells #[int i64 k.t, int i64 k.ser, int i64 k.win] 137)).alloc (.cells #[] 221)).heap.size = w.heap.size + 2 := by rw [zbd, yz]
   have y2 := (hb2.block w.heap.size (by omega)).trans y0
   have z0 : ((w.alloc (.cells #[int i64 k.t, int i64 k.ser, int i64 k.win] 137)).alloc (.cells #[] 221)).cell? ⟨w.heap.size, 0, none⟩ = some (int i64 k.t) := by rw [zac y2]; rfl
   have z1 : ((w.alloc (.cells #[int i64 k.t, int i64 k.ser, int i64 k.win] 137)).alloc (.cells #[] 221)).cell? ⟨w.heap.size, 1, none⟩ = some (int i64 k.ser) := by rw [zac y2]; rfl
   have z2 : ((w.alloc (.cells #[int i64 k.t, int i64 k.ser, int i64 k.win] 137)).alloc (.cells #[] 221)).cell? ⟨w.heap.size, 2, none⟩ = some (int i64 k.win) := by rw [zac y2]; rfl
   have n2 := (hbX.cell (p := ⟨Bp, 0, none⟩) l2).trans b2
   have n3 := (hbX.cell (p := ⟨Bn, 0, none⟩) l3).trans b3
   have s0 := (hbX.cell (p := ⟨s, 0, none⟩) hsl).trans c0
   have s1 := (hbX.cell (p := ⟨s, 1, none⟩) hsl).trans c1
   have s2 := (hbX.cell (p := ⟨s, 2, none⟩) hsl).trans c2
   have s3 := (hbX.cell (p := ⟨s, 3, none⟩) hsl).trans c3
   have s4 := (hbX.cell (p := ⟨s, 4, none⟩) hsl).trans c4
   have s5 := (hbX.cell (p := ⟨s, 5, none⟩) hsl).trans c5
   have s6 := (hbX.cell (p := ⟨s, 6, none⟩) hsl).trans c6
   have HBX := zab hbX
   have HZX := zab hzX
   clear HG g0 hb1 y0 yz b1 b2 b3 hb2 hbX y2 hzX c0 c1 c2 c3 c4 c5 c6
   go_enter Tryz.func146, Tryz.ntmps146
   go_wp2_with fail
   have r1 : w.heap.size < w.heap.size + 2 := by omega
   have r2 : Bp < w.heap.size + 2 := by omega
   have r3 : Bn < w.heap.size + 2 := by omega
   have r4 : s < w.heap.size + 2 := by omega
   have HNL : Hid (w.heap.size <= w.heap.size + 2) := by show w.heap.size <= w.heap.size + 2; omega
   clear k0 k1 k2 m1 q0
   generalize ((w.alloc (.cells #[int i64 k.t, int i64 k.ser, int i64 k.win] 137)).alloc (.cells #[] 221)) = X at *
   generalize w.heap.size + 2 = N at *
   have HNX : Hid (N <= X.heap.size) := by show N <= X.heap.size; rw [ud HZX]; exact Nat.le_refl _
   have hne : Nonempty (zaf N X) := zaf.some _ _
   have hlc := fun (u : zaf N X) b o h => u.cell b o h
   refine zad N (by kernel_rfl) (by kernel_rfl) ?_
   repeat (go_big_quiet_step (first
    | (go_at_call 147; exact Calls.later (ud HNX) (ud (HWT _ ((ud HBX).trans (Below.mono (Subtype.property _) (ud HNL))))))
    | (go_at_call 118; exact Calls.later (ud HNX) (ud (HCL _ ((ud HBX).trans (Below.mono (Subtype.property _) (ud HNL))))))))
   refine wpQuiet_nil ?_
   rintro ⟨w1, hb1⟩
   clear hlc hne
   dsimp only
   go_wp2_with fail
   go_ret
   exact ⟨rfl, (ud HBX).trans (hb1.mono (ud HNL))⟩
  | true =>
   rw [hst] at HWT
   clear hst
   cases d with
   | false =>
    have q0 := g0 _ hb1
    have k0 : (w.alloc (.cells #[int i64 k.t, int i64 k.ser, int i64 k.win] 137)).cell? ⟨w.heap.size, 0, none⟩ = some (int i64 k.t) := by rw [zac y0]; rfl
    have k1 : (w.alloc (.cells #[int i64 k.t, int i64 k.ser, int i64 k.win] 137)).cell? ⟨w.heap.size, 1, none⟩ = some (int i64 k.ser) := by rw [zac y0]; rfl
    have k2 : (w.alloc (.cells #[int i64 k.t, int i64 k.ser, int i64 k.win] 137)).cell? ⟨w.heap.size, 2, none⟩ = some (int i64 k.win) := by rw [zac y0]; rfl
    have m1 := (hb1.cell (p := ⟨Bb, 0, none⟩) l1).trans b1
    have hb2 : Below (w.heap.size + 1) (w.alloc (.cells #[int i64 k.t, int i64 k.ser, int i64 k.win] 137)) ((w.alloc (.cells #[int i64 k.t, int i64 k.ser, int i64 k.win] 137)).alloc (.cells #[] 221)) := (Below.refl _ _).alloc (by rw [yz]; omega) _
    have hbX : Below w.heap.size w ((w.alloc (.cells #[int i64 k.t, int i64 k.ser, int i64 k.win] 137)).alloc (.cells #[] 221)) := hb1.trans (hb2.mono (by omega))
    have hzX : ((w.alloc (.cells #[int i64 k.t, int i64 k.ser, int i64 k.win] 137)).alloc (.cells #[] 221)).heap.size = w.heap.size + 2 := by rw [zbd, yz]
    have y2 := (hb2.block w.heap.size (by omega)).trans y0
    have z0 : ((w.alloc (.cells #[int i64 k.t, int i64 k.ser, int i64 k.win] 137)).alloc (.cells #[] 221)).cell? ⟨w.heap.size, 0, none⟩ = some (int i64 k.t) := by rw [zac y2]; rfl
    have z1 : ((w.alloc (.cells #[int i64 k.t, int i64 k.ser, int i64 k.win] 137)).alloc (.cells #[] 221)).cell? ⟨w.heap.size, 1, none⟩ = some (int i64 k.ser) := by rw [zac y2]; rfl
    have z2 : ((w.alloc (.cells #[int i64 k.t, int i64 k.ser, int i64 k.win] 137)).alloc (.cells #[] 221)).cell? ⟨w.heap.size, 2, none⟩ = some (int i64 k.win) := by rw [zac y2]; rfl
    have n2 := (hbX.cell (p := ⟨Bp, 0, none⟩) l2).trans b2
    have n3 := (hbX.cell (p := ⟨Bn, 0, none⟩) l3).trans b3
    have s0 := (hbX.cell (p := ⟨s, 0, none⟩) hsl).trans c0
    have s1 := (hbX.cell (p := ⟨s, 1, none⟩) hsl).trans c1
    have s2 := (hbX.cell (p := ⟨s, 2, none⟩) hsl).trans c2
    have s3 := (hbX.cell (p := ⟨s, 3, none⟩) hsl).trans c3
    have s4 := (hbX.cell (p := ⟨s, 4, none⟩) hsl).trans c4
    have s5 := (hbX.cell (p := ⟨s, 5, none⟩) hsl).trans c5
    have s6 := (hbX.cell (p := ⟨s, 6, none⟩) hsl).trans c6
    have HBX := zab hbX
    have HZX := zab hzX
    clear HG g0 hb1 y0 yz b1 b2 b3 hb2 hbX y2 hzX c0 c1 c2 c3 c4 c5 c6
    go_enter Tryz.func146, Tryz.ntmps146
    go_wp2_with fail
    have r1 : w.heap.size < w.heap.size + 2 := by omega
    have r2 : Bp < w.heap.size + 2 := by omega
    have r3 : Bn < w.heap.size + 2 := by omega
    have r4 : s < w.heap.size + 2 := by omega
    have HNL : Hid (w.heap.size <= w.heap.size + 2) := by show w.heap.size <= w.heap.size + 2; omega
    clear k0 k1 k2 m1 q0
    generalize ((w.alloc (.cells #[int i64 k.t, int i64 k.ser, int i64 k.win] 137)).alloc (.cells #[] 221)) = X at *
    generalize w.heap.size + 2 = N at *
    have HNX : Hid (N <= X.heap.size) := by show N <= X.heap.size; rw [ud HZX]; exact Nat.le_refl _
    have hne : Nonempty (zaf N X) := zaf.some _ _
    have hlc := fun (u : zaf N X) b o h => u.cell b o h
    refine zad N (by kernel_rfl) (by kernel_rfl) ?_
    repeat (go_big_quiet_step (first
     | (go_at_call 147; exact Calls.later (ud HNX) (ud (HWT _ ((ud HBX).trans (Below.mono (Subtype.property _) (ud HNL))))))
     | (go_at_call 118; exact Calls.later (ud HNX) (ud (HCL _ ((ud HBX).trans (Below.mono (Subtype.property _) (ud HNL))))))))
    refine wpQuiet_nil ?_
    rintro ⟨w1, hb1⟩
    clear hlc hne
    dsimp only
    go_wp2_with fail
    go_ret
    exact ⟨rfl, (ud HBX).trans (hb1.mono (ud HNL))⟩
   | true =>
    have q0 := g0 _ hb1
    have k0 : (w.alloc (.cells #[int i64 k.t, int i64 k.ser, int i64 k.win] 137)).cell? ⟨w.heap.size, 0, none⟩ = some (int i64 k.t) := by rw [zac y0]; rfl
    have k1 : (w.alloc (.cells #[int i64 k.t, int i64 k.ser, int i64 k.win] 137)).cell? ⟨w.heap.size, 1, none⟩ = some (int i64 k.ser) := by rw [zac y0]; rfl
    have k2 : (w.alloc (.cells #[int i64 k.t, int i64 k.ser, int i64 k.win] 137)).cell? ⟨w.heap.size, 2, none⟩ = some (int i64 k.win) := by rw [zac y0]; rfl
    have m1 := (hb1.cell (p := ⟨Bb, 0, none⟩) l1).trans b1
    have hb2 : Below (w.heap.size + 1) (w.alloc (.cells #[int i64 k.t, int i64 k.ser, int i64 k.win] 137)) ((w.alloc (.cells #[int i64 k.t, int i64 k.ser, int i64 k.win] 137)).alloc (.cells #[] 221)) := (Below.refl _ _).alloc (by rw [yz]; omega) _
    have hbX : Below w.heap.size w ((w.alloc (.cells #[int i64 k.t, int i64 k.ser, int i64 k.win] 137)).alloc (.cells #[] 221)) := hb1.trans (hb2.mono (by omega))
    have hzX : ((w.alloc (.cells #[int i64 k.t, int i64 k.ser, int i64 k.win] 137)).alloc (.cells #[] 221)).heap.size = w.heap.size + 2 := by rw [zbd, yz]
    have y2 := (hb2.block w.heap.size (by omega)).trans y0
    have z0 : ((w.alloc (.cells #[int i64 k.t, int i64 k.ser, int i64 k.win] 137)).alloc (.cells #[] 221)).cell? ⟨w.heap.size, 0, none⟩ = some (int i64 k.t) := by rw [zac y2]; rfl
    have z1 : ((w.alloc (.cells #[int i64 k.t, int i64 k.ser, int i64 k.win] 137)).alloc (.cells #[] 221)).cell? ⟨w.heap.size, 1, none⟩ = some (int i64 k.ser) := by rw [zac y2]; rfl
    have z2 : ((w.alloc (.cells #[int i64 k.t, int i64 k.ser, int i64 k.win] 137)).alloc (.cells #[] 221)).cell? ⟨w.heap.size, 2, none⟩ = some (int i64 k.win) := by rw [zac y2]; rfl
    have n2 := (hbX.cell (p := ⟨Bp, 0, none⟩) l2).trans b2
    have n3 := (hbX.cell (p := ⟨Bn, 0, none⟩) l3).trans b3
    have s0 := (hbX.cell (p := ⟨s, 0, none⟩) hsl).trans c0
    have s1 := (hbX.cell (p := ⟨s, 1, none⟩) hsl).trans c1
    have s2 := (hbX.cell (p := ⟨s, 2, none⟩) hsl).trans c2
    have s3 := (hbX.cell (p := ⟨s, 3, none⟩) hsl).trans c3
    have s4 := (hbX.cell (p := ⟨s, 4, none⟩) hsl).trans c4
    have s5 := (hbX.cell (p := ⟨s, 5, none⟩) hsl).trans c5
    have s6 := (hbX.cell (p := ⟨s, 6, none⟩) hsl).trans c6
    have HBX := zab hbX
    have HZX := zab hzX
    clear HG g0 hb1 y0 yz b1 b2 b3 hb2 hbX y2 hzX c0 c1 c2 c3 c4 c5 c6
    go_enter Tryz.func146, Tryz.ntmps146
    go_wp2_with fail
    have r1 : w.heap.size < w.heap.size + 2 := by omega
    have r2 : Bp < w.heap.size + 2 := by omega
    have r3 : Bn < w.heap.size + 2 := by omega
    have r4 : s < w.heap.size + 2 := by omega
    have HNL : Hid (w.heap.size <= w.heap.size + 2) := by show w.heap.size <= w.heap.size + 2; omega
    clear k0 k1 k2 m1 q0
    generalize ((w.alloc (.cells #[int i64 k.t, int i64 k.ser, int i64 k.win] 137)).alloc (.cells #[] 221)) = X at *
    generalize w.heap.size + 2 = N at *
    have HNX : Hid (N <= X.heap.size) := by show N <= X.heap.size; rw [ud HZX]; exact Nat.le_refl _
    have hne : Nonempty (zaf N X) := zaf.some _ _
    have hlc := fun (u : zaf N X) b o h => u.cell b o h
    refine zad N (by kernel_rfl) (by kernel_rfl) ?_
    repeat (go_big_quiet_step (first
     | (go_at_call 147; exact Calls.later (ud HNX) (ud (HWT _ ((ud HBX).trans (Below.mono (Subtype.property _) (ud HNL))))))
     | (go_at_call 118; exact Calls.later (ud HNX) (ud (HCL _ ((ud HBX).trans (Below.mono (Subtype.property _) (ud HNL))))))))
    refine wpQuiet_nil ?_
    rintro ⟨w1, hb1⟩
    clear hlc hne
    dsimp only
    go_wp2_with fail
    go_ret
    exact ⟨rfl, (ud HBX).trans (hb1.mono (ud HNL))⟩
noncomputable def hangW (c : Cf) (k : Sg) : List WSg := ((aboL c k.t (k.win * c.width k.t) c.n).map wPair).map (pairSg k.ser)
theorem hangW_len (c : Cf) (k : Sg) : (hangW c k).length <= c.n := by unfold hangW; rw [List.length_map, List.length_map]; exact aboL_len _ _ _ _
noncomputable def hangsB (c : Cf) (L : LV) (k : Sg) : Bool := ((((hangW c k).filter (fun x => (stL L x.1).st == 2)).length : Int) == 0)
noncomputable def reclB (c : Cf) (L : LV) (now : Int) (k : Sg) : Bool := !((stL L k).st == 2) && decide ((k.win + 1) * c.width k.t + c.keep k.t <= now) && hangsB c L k
theorem own_lt0 {w : World} {base : Nat} {e : TypeId} {size : Nat} {v : Value} {n : Nat} {xs : List Value} (h : w.ownsRow base e size v n xs) : ∀ k, v.ownBlock = some k -> k < w.heap.size := fun k hk => by obtain ⟨cur, hc⟩ := zbp h hk; exact zaa hc
theorem waits_enters : ∀ args w, (callFunc 147 args).run Tryz.prog w = .ok (.enter 147 args) w := enters_of Tryz.func147 (by kernel_rfl) rfl
theorem hcount_any {w : World} {s : Nat} {c : Cf} {tv : Value} {lb gb : Nat} {Gl : List (Sg × Unit)} {L : LV} (h : zda w s c tv lb gb Gl L) (hc : c.ok) (k : Sg) (hk : k.wf) (hk1 : -1 <= k.t) (hk2 : k.t < c.n) (hk3 : 0 <= k.win /\ k.win <= 100000) :
  Calls Tryz.prog 150 #[.func (.func 196) #[] #[.pointer (some ⟨w.heap.size, 0, none⟩), .pointer (some ⟨w.heap.size + 1, 0, none⟩)], .func (.func 147) #[.pointer (some ⟨s, 0, none⟩)] #[]] ((w.alloc (.cells #[.pointer (some ⟨s, 0, none⟩)] 81)).alloc (.cells #[int i64 k.t, int i64 k.ser, int i64 k.win] 137)) fun e w' => e = .returned (int i64 ((hangW c k).filter (fun x => (stL L x.1).st == 2)).length) /\ Below ((w.alloc (.cells #[.pointer (some ⟨s, 0, none⟩)] 81)).alloc (.cells #[int i64 k.t, int i64 k.ser, int i64 k.win] 137)).heap.size ((w.alloc (.cells #[.pointer (some ⟨s, 0, none⟩)] 81)).alloc (.cells #[int i64 k.t, int i64 k.ser, int i64 k.win] 137)) w' := by
 obtain ⟨y0, y1, hbw, yz⟩ := box2 w (.cells #[.pointer (some ⟨s, 0, none⟩)] 81) (.cells #[int i64 k.t, int i64 k.ser, int i64 k.win] 137)
 have h2 := h.later hbw
 have hsl := h.lt
 have hfoot : ∀ g, tv.ownBlock = some g -> g < w.heap.size := fun g hg => own_lt0 h.trow g hg
 refine (cnt_key (fun x : WSg => x.1) 196 _ hang_enters 147 #[.pointer (some ⟨s, 0, none⟩)] #[] waits_enters (fun x => (stL L x.1).st == 2) _ (fun x W hW => pwaits_any (h2.later hW) x.1 x.2)
  (hang_seq (ex := fun _ => False) w.heap.size (w.heap.size + 1) s k c hc tv lb gb hk1 hk2 hk3 hk.2.1 _ (Nat.le_refl _) ⟨y0, y1, h2.hd⟩ ⟨by rw [yz]; omega, fun e => e⟩ ⟨by rw [yz]; omega, fun e => e⟩ ⟨by rw [yz]; omega, fun e => e⟩ (fun g hg => ⟨by have := hfoot g hg; rw [yz]; omega, fun e => e⟩))
  (fun xs e => by rw [e]; have := hangW_len c k; have := hc.n4; unfold hangW at *; omega)).mono ?_
 rintro e w' ⟨xs, hS, he, hb⟩
 subst hS
 exact ⟨he, hb⟩
set_option maxRecDepth 8000 in
set_option maxHeartbeats 8000000 in
theorem reclaimable1_any {w : World} {s : Nat} {c : Cf} {tv : Value} {lb gb : Nat} {Gl : List (Sg × Unit)} {L : LV} (h : zda w s c tv lb gb Gl L) (hc : c.ok) (k : Sg) (hk : k.wf) (hk1 : -1 <= k.t) (hk2 : k.t < c.n) (hk3 : 0 <= k.win /\ k.win <= 100000) (now : Int) (hnow : 0 <= now /\ now <= 100000)
  (Bp Bn : Nat) (b2 : w.cell? ⟨Bp, 0, none⟩ = some (.pointer (some ⟨s, 0, none⟩))) (b3 : w.cell? ⟨Bn, 0, none⟩ = some (int i64 now)) (l2 : Bp < w.heap.size) (l3 : Bn < w.heap.size) :
  Calls Tryz.prog 148 #[.agg #[int i64 k.t, int i64 k.ser, int i64 k.win], .pointer (some ⟨Bp, 0, none⟩), .pointer (some ⟨Bn, 0, none⟩)] w fun e w' => e = .returned (.bool (reclB c L now k)) /\ Below w.heap.size w w' := by
 obtain ⟨a, cap, rfl⟩ := zah h.trow
 have hsl := h.lt
 have hb1 : Below w.heap.size w (w.alloc (.cells #[int i64 k.t, int i64 k.ser, int i64 k.win] 137)) := (Below.refl _ _).alloc (Nat.le_refl _) _
 have y0 := zap w (.cells #[int i64 k.t, int i64 k.ser, int i64 k.win] 137)
 have yz := zbd w (.cells #[int i64 k.t, int i64 k.ser, int i64 k.win] 137)
 obtain ⟨c0, c1, c2, c3, c4, c5, c6, -, -⟩ := h.cells
 have HWT := fun W hW => zab (pwaits_any (h.later (w' := W) hW) k hk)
 have HKU := fun W hW => zab (lkept_any c hc a cap k.t k.win hk1 hk2 hk3 W ((TS.of_owns h.trow).below (w' := W) hW))
 have HHO := fun W => zab (hangOn_any s k W)
 have HCN := fun W hW => zab (hcount_any (h.later (w' := W) hW) hc k hk hk1 hk2 hk3)
 obtain ⟨v, hv⟩ : ∃ v, stL L k = v := ⟨_, rfl⟩
 obtain ⟨u, hu⟩ : ∃ u, (k.win + 1) * c.width k.t + c.keep k.t = u := ⟨_, rfl⟩
 obtain ⟨q, hq⟩ : ∃ q : Nat, ((hangW c k).filter (fun x => (stL L x.1).st == 2)).length = q := ⟨_, rfl⟩
 have HRB : Hid (reclB c L now k = (!(v.st == 2) && decide (u <= now) && ((q : Int) == 0))) := by show reclB c L now k = _; unfold reclB hangsB; rw [hv, hu, hq]
 rw [ud HRB]
 rw [hv] at HWT
 rw [hu] at HKU
 rw [hq] at HCN
 have Xc0 := (hb1.cell (p := ⟨Bp, 0, none⟩) l2).trans b2
 have Xc1 := (hb1.cell (p := ⟨Bn, 0, none⟩) l3).trans b3
 have Xc2 := (hb1.cell (p := ⟨s, 0, none⟩) hsl).trans c0
 have Xc3 := (hb1.cell (p := ⟨s, 1, none⟩) hsl).trans c1
 have Xc4 := (hb1.cell (p := ⟨s, 2, none⟩) hsl).trans c2
 have Xc5 := (hb1.cell (p := ⟨s, 3, none⟩) hsl).trans c3
 have Xc6 := (hb1.cell (p := ⟨s, 4, none⟩) hsl).trans c4
 have Xc7 := (hb1.cell (p := ⟨s, 5, none⟩) hsl).trans c5
 have Xc8 := (hb1.cell (p := ⟨s, 6, none⟩) hsl).trans c6
 have Xc9 : (w.alloc (.cells #[int i64 k.t, int i64 k.ser, int i64 k.win] 137)).cell? ⟨w.heap.size, 0, none⟩ = some (int i64 k.t) := by rw [zac y0]; rfl
 have Xc10 : (w.alloc (.cells #[int i64 k.t, int i64 k.ser, int i64 k.win] 137)).cell? ⟨w.heap.size, 1, none⟩ = some (int i64 k.ser) := by rw [zac y0]; rfl
 have Xc11 : (w.alloc (.cells #[int i64 k.t, int i64 k.ser, int i64 k.win] 137)).cell? ⟨w.heap.size, 2, none⟩ = some (int i64 k.win) := by rw [zac y0]; rfl
 have Xl1 : s < (w.alloc (.cells #[int i64 k.t, int i64 k.ser, int i64 k.win] 137)).heap.size := by rw [yz]; omega
 have Xl2 : Bp < (w.alloc (.cells #[int i64 k.t, int i64 k.ser, int i64 k.win] 137)).heap.size := by rw [yz]; omega
 have Xl3 : Bn < (w.alloc (.cells #[int i64 k.t, int i64 k.ser, int i64 k.win] 137)).heap.size := by rw [yz]; omega
 have Xlk : w.heap.size < (w.alloc (.cells #[int i64 k.t, int i64 k.ser, int i64 k.win] 137)).heap.size := by rw [yz]; omega
 have HB1 := zab hb1
 have HWX := HWT _ hb1
 have HWXD := HWT (w.alloc (.cells #[int i64 k.t, int i64 k.ser, int i64 k.win] 137)).drew hb1.drew
 clear h hc hv hu hq b2 b3 hb1 y0 yz c0 c1 c2 c3 c4 c5 c6 hk3 hk hnow
 cases hst : (v.st == 2) with
 | true =>
  rw [hst] at HWT
  clear hst HWX HWXD
  have HZX : Hid ((w.alloc (.cells #[int i64 k.t, int i64 k.ser, int i64 k.win] 137)).heap.size = w.heap.size + 1) := zbd w _
  go_enter Tryz.func148, Tryz.ntmps148
  go_wp2_with fail
  have r1 : w.heap.size < w.heap.size + 1 := by omega
  have r2 : Bp < w.heap.size + 1 := by omega
  have r3 : Bn < w.heap.size + 1 := by omega
  have r4 : s < w.heap.size + 1 := by omega
  have HNL : Hid (w.heap.size <= w.heap.size + 1) := by show w.heap.size <= w.heap.size + 1; omega
  clear Xl1 Xl2 Xl3 Xlk
  generalize (w.alloc (.cells #[int i64 k.t, int i64 k.ser, int i64 k.win] 137)) = X at *
  generalize w.heap.size + 1 = N at *
  have HNX : Hid (N <= X.heap.size) := by show N <= X.heap.size; rw [ud HZX]; exact Nat.le_refl _
  have hne : Nonempty (zaf N X) := zaf.some _ _
  have hlc := fun (u : zaf N X) b o h => u.cell b o h
  refine zad N (by kernel_rfl) (by kernel_rfl) ?_
  repeat (go_big_quiet_step (first
   | (go_at_call 147; exact Calls.later (ud HNX) (ud (HWT _ ((ud HB1).trans (Below.mono (Subtype.property _) (ud HNL))))))
   | (go_at_call 149; exact Calls.later (ud HNX) (ud (HKU _ ((ud HB1).trans (Below.mono (Subtype.property _) (ud HNL))))))))
  refine wpQuiet_nil ?_
  rintro ⟨w1, hb1⟩
  clear hlc hne
  dsimp only
  go_wp2_with fail
  go_ret
  exact ⟨rfl, (ud HB1).trans (hb1.mono (ud HNL))⟩
 | false =>
  rw [hst] at HWT HWX HWXD
  clear hst
  by_cases hun : u <= now
  ·have hd : decide (u <= now) = true := by simpa using hun
   rw [hd]
   clear HWT
   go_enter Tryz.func148, Tryz.ntmps148
   go_wp2_with fail
   generalize (w.alloc (.cells #[int i64 k.t, int i64 k.ser, int i64 k.win] 137)) = X at *
   go_region_held3 (fun w' => w'.cell? ⟨Bp, 0, none⟩ = some (.pointer (some ⟨s, 0, none⟩)) /\ w'.cell? ⟨Bn, 0, none⟩ = some (int i64 now) /\ w'.cell? ⟨s, 0, none⟩ = some (int i64 c.s) /\ w'.cell? ⟨s, 1, none⟩ = some (int i64 c.le) /\ w'.cell? ⟨s, 2, none⟩ = some (int i64 c.la) /\ w'.cell? ⟨s, 3, none⟩ = some (int i64 c.wi) /\ w'.cell? ⟨s, 4, none⟩ = some (int i64 c.ke) /\ w'.cell? ⟨s, 5, none⟩ = some (int i64 c.qu) /\ w'.cell? ⟨s, 6, none⟩ = some (.slice a c.n cap) /\ w'.cell? ⟨w.heap.size, 0, none⟩ = some (int i64 k.t) /\ w'.cell? ⟨w.heap.size, 1, none⟩ = some (int i64 k.ser) /\ w'.cell? ⟨w.heap.size, 2, none⟩ = some (int i64 k.win)) (go_keep) (first
    | (go_at_call 147; (first | refine (ud HWX).mono ?_ | refine (ud HWXD).mono ?_); rintro e V1 ⟨rfl, hbv1⟩; have hbV1 : Below X.heap.size X V1 := ⟨hbv1.os, hbv1.tape, hbv1.output, hbv1.size, hbv1.block⟩; have V1z := hbV1.size; have V1l1 := Nat.lt_of_lt_of_le Xl1 V1z; have V1l2 := Nat.lt_of_lt_of_le Xl2 V1z; have V1l3 := Nat.lt_of_lt_of_le Xl3 V1z; have V1lk := Nat.lt_of_lt_of_le Xlk V1z; have V1c0 := (hbV1.cell (p := ⟨Bp, 0, none⟩) Xl2).trans Xc0; have V1c1 := (hbV1.cell (p := ⟨Bn, 0, none⟩) Xl3).trans Xc1; have V1c2 := (hbV1.cell (p := ⟨s, 0, none⟩) Xl1).trans Xc2; have V1c3 := (hbV1.cell (p := ⟨s, 1, none⟩) Xl1).trans Xc3; have V1c4 := (hbV1.cell (p := ⟨s, 2, none⟩) Xl1).trans Xc4; have V1c5 := (hbV1.cell (p := ⟨s, 3, none⟩) Xl1).trans Xc5; have V1c6 := (hbV1.cell (p := ⟨s, 4, none⟩) Xl1).trans Xc6; have V1c7 := (hbV1.cell (p := ⟨s, 5, none⟩) Xl1).trans Xc7; have V1c8 := (hbV1.cell (p := ⟨s, 6, none⟩) Xl1).trans Xc8; have V1c9 := (hbV1.cell (p := ⟨w.heap.size, 0, none⟩) Xlk).trans Xc9; have V1c10 := (hbV1.cell (p := ⟨w.heap.size, 1, none⟩) Xlk).trans Xc10; have V1c11 := (hbV1.cell (p := ⟨w.heap.size, 2, none⟩) Xlk).trans Xc11; have hbw1 := (ud HB1).trans (hbV1.mono (ud HB1).size); have HKV1 := HKU V1 hbw1; have HKV1D := HKU V1.drew hbw1.drew; have HBV1 := zab hbw1; clear hbv1 hbV1 hbw1 V1z HKU Xc0 Xc1 Xc2 Xc3 Xc4 Xc5 Xc6 Xc7 Xc8 Xc9 Xc10 Xc11 Xl1 Xl2 Xl3 Xlk)
    | (go_at_call 149; (first | refine (ud HKV1).mono ?_ | refine (ud HKV1D).mono ?_); rintro e V2 ⟨rfl, hbv2⟩; have hbV2 : Below V1.heap.size V1 V2 := ⟨hbv2.os, hbv2.tape, hbv2.output, hbv2.size, hbv2.block⟩; have V2z := hbV2.size; have V2l1 := Nat.lt_of_lt_of_le V1l1 V2z; have V2l2 := Nat.lt_of_lt_of_le V1l2 V2z; have V2l3 := Nat.lt_of_lt_of_le V1l3 V2z; have V2lk := Nat.lt_of_lt_of_le V1lk V2z; have V2c0 := (hbV2.cell (p := ⟨Bp, 0, none⟩) V1l2).trans V1c0; have V2c1 := (hbV2.cell (p := ⟨Bn, 0, none⟩) V1l3).trans V1c1; have V2c2 := (hbV2.cell (p := ⟨s, 0, none⟩) V1l1).trans V1c2; have V2c3 := (hbV2.cell (p := ⟨s, 1, none⟩) V1l1).trans V1c3; have V2c4 := (hbV2.cell (p := ⟨s, 2, none⟩) V1l1).trans V1c4; have V2c5 := (hbV2.cell (p := ⟨s, 3, none⟩) V1l1).trans V1c5; have V2c6 := (hbV2.cell (p := ⟨s, 4, none⟩) V1l1).trans V1c6; have V2c7 := (hbV2.cell (p := ⟨s, 5, none⟩) V1l1).trans V1c7; have V2c8 := (hbV2.cell (p := ⟨s, 6, none⟩) V1l1).trans V1c8; have V2c9 := (hbV2.cell (p := ⟨w.heap.size, 0, none⟩) V1lk).trans V1c9; have V2c10 := (hbV2.cell (p := ⟨w.heap.size, 1, none⟩) V1lk).trans V1c10; have V2c11 := (hbV2.cell (p := ⟨w.heap.size, 2, none⟩) V1lk).trans V1c11; have hbw2 := (ud HBV1).trans (hbV2.mono (ud HBV1).size); have HOV2 := HHO V2; have HOV2D := HHO V2.drew; have HCV2 := HCN V2 hbw2; have HCV2D := HCN V2.drew hbw2.drew; have HBV2 := zab hbw2; clear hbv2 hbV2 hbw2 V2z HCN HHO V1c0 V1c1 V1c2 V1c3 V1c4 V1c5 V1c6 V1c7 V1c8 V1c9 V1c10 V1c11 V1l1 V1l2 V1l3 V1lk)
    | (go_at_call 151; (first | refine (ud HOV2).mono ?_ | refine (ud HOV2D).mono ?_); rintro e V3 ⟨rfl, rfl⟩; obtain ⟨-, -, hbV3, -⟩ := box2 V2 (.cells #[.pointer (some ⟨s, 0, none⟩)] 81) (.cells #[int i64 k.t, int i64 k.ser, int i64 k.win] 137); have V3z := hbV3.size; have V3l1 := Nat.lt_of_lt_of_le V2l1 V3z; have V3l2 := Nat.lt_of_lt_of_le V2l2 V3z; have V3l3 := Nat.lt_of_lt_of_le V2l3 V3z; have V3lk := Nat.lt_of_lt_of_le V2lk V3z; have V3c0 := (hbV3.cell (p := ⟨Bp, 0, none⟩) V2l2).trans V2c0; have V3c1 := (hbV3.cell (p := ⟨Bn, 0, none⟩) V2l3).trans V2c1; have V3c2 := (hbV3.cell (p := ⟨s, 0, none⟩) V2l1).trans V2c2; have V3c3 := (hbV3.cell (p := ⟨s, 1, none⟩) V2l1).trans V2c3; have V3c4 := (hbV3.cell (p := ⟨s, 2, none⟩) V2l1).trans V2c4; have V3c5 := (hbV3.cell (p := ⟨s, 3, none⟩) V2l1).trans V2c5; have V3c6 := (hbV3.cell (p := ⟨s, 4, none⟩) V2l1).trans V2c6; have V3c7 := (hbV3.cell (p := ⟨s, 5, none⟩) V2l1).trans V2c7; have V3c8 := (hbV3.cell (p := ⟨s, 6, none⟩) V2l1).trans V2c8; have V3c9 := (hbV3.cell (p := ⟨w.heap.size, 0, none⟩) V2lk).trans V2c9; have V3c10 := (hbV3.cell (p := ⟨w.heap.size, 1, none⟩) V2lk).trans V2c10; have V3c11 := (hbV3.cell (p := ⟨w.heap.size, 2, none⟩) V2lk).trans V2c11; have HB3 := zab hbV3; clear V3z hbV3 V2c0 V2c1 V2c2 V2c3 V2c4 V2c5 V2c6 V2c7 V2c8 V2c9 V2c10 V2c11)
    | (go_at_call 150; (first | refine (ud HCV2).mono ?_ | refine (ud HCV2D).mono ?_); rintro e V4 ⟨rfl, hbv4⟩; have hbV4 : Below ((V2.alloc (.cells #[.pointer (some ⟨s, 0, none⟩)] 81)).alloc (.cells #[int i64 k.t, int i64 k.ser, int i64 k.win] 137)).heap.size ((V2.alloc (.cells #[.pointer (some ⟨s, 0, none⟩)] 81)).alloc (.cells #[int i64 k.t, int i64 k.ser, int i64 k.win] 137)) V4 := ⟨hbv4.os, hbv4.tape, hbv4.output, hbv4.size, hbv4.block⟩; have V4c0 := (hbV4.cell (p := ⟨Bp, 0, none⟩) V3l2).trans V3c0; have V4c1 := (hbV4.cell (p := ⟨Bn, 0, none⟩) V3l3).trans V3c1; have V4c2 := (hbV4.cell (p := ⟨s, 0, none⟩) V3l1).trans V3c2; have V4c3 := (hbV4.cell (p := ⟨s, 1, none⟩) V3l1).trans V3c3; have V4c4 := (hbV4.cell (p := ⟨s, 2, none⟩) V3l1).trans V3c4; have V4c5 := (hbV4.cell (p := ⟨s, 3, none⟩) V3l1).trans V3c5; have V4c6 := (hbV4.cell (p := ⟨s, 4, none⟩) V3l1).trans V3c6; have V4c7 := (hbV4.cell (p := ⟨s, 5, none⟩) V3l1).trans V3c7; have V4c8 := (hbV4.cell (p := ⟨s, 6, none⟩) V3l1).trans V3c8; have V4c9 := (hbV4.cell (p := ⟨w.heap.size, 0, none⟩) V3lk).trans V3c9; have V4c10 := (hbV4.cell (p := ⟨w.heap.size, 1, none⟩) V3lk).trans V3c10; have V4c11 := (hbV4.cell (p := ⟨w.heap.size, 2, none⟩) V3lk).trans V3c11; have HB4 := zab hbV4; clear hbv4 hbV4))
   all_goals (go_wp2_with fail)
   all_goals go_ret
   all_goals (exact ⟨rfl, ((ud HBV2).trans ((ud HB3).mono (ud HBV2).size)).trans ((ud HB4).mono (Nat.le_trans (ud HBV2).size (ud HB3).size))⟩)
  ·have hd : decide (u <= now) = false := by simpa using hun
   rw [hd]
   clear HWX HWXD
   have HZX : Hid ((w.alloc (.cells #[int i64 k.t, int i64 k.ser, int i64 k.win] 137)).heap.size = w.heap.size + 1) := zbd w _
   go_enter Tryz.func148, Tryz.ntmps148
   go_wp2_with fail
   have r1 : w.heap.size < w.heap.size + 1 := by omega
   have r2 : Bp < w.heap.size + 1 := by omega
   have r3 : Bn < w.heap.size + 1 := by omega
   have r4 : s < w.heap.size + 1 := by omega
   have HNL : Hid (w.heap.size <= w.heap.size + 1) := by show w.heap.size <= w.heap.size + 1; omega
   clear Xl1 Xl2 Xl3 Xlk
   generalize (w.alloc (.cells #[int i64 k.t, int i64 k.ser, int i64 k.win] 137)) = X at *
   generalize w.heap.size + 1 = N at *
   have HNX : Hid (N <= X.heap.size) := by show N <= X.heap.size; rw [ud HZX]; exact Nat.le_refl _
   have hne : Nonempty (zaf N X) := zaf.some _ _
   have hlc := fun (u : zaf N X) b o h => u.cell b o h
   refine zad N (by kernel_rfl) (by kernel_rfl) ?_
   repeat (go_big_quiet_step (first
    | (go_at_call 147; exact Calls.later (ud HNX) (ud (HWT _ ((ud HB1).trans (Below.mono (Subtype.property _) (ud HNL))))))
    | (go_at_call 149; exact Calls.later (ud HNX) (ud (HKU _ ((ud HB1).trans (Below.mono (Subtype.property _) (ud HNL))))))))
   refine wpQuiet_nil ?_
   rintro ⟨w1, hb1⟩
   clear hlc hne
   dsimp only
   go_wp2_with fail
   go_ret
   exact ⟨rfl, (ud HB1).trans (hb1.mono (ud HNL))⟩
end Go.Proofs.YtpbimdkclnekeaaGreat

namespace Go.Proofs.YtpbimdkclnekeaaGreat
open Value (int)
open IntKind (i64)
open Go.RowKit Go.Maps Go.Shelf
open Go.ChangeMaps (setBlock)
set_option linter.unusedVariables false
attribute [local go_sem] Oper.semAt_some
def inR (c : Cf) (s : Sg) : Prop := s.wf /\ -1 <= s.t /\ s.t < c.n /\ 0 <= s.win /\ s.win <= 100000
abbrev RSg (c : Cf) := { s : Sg // inR c s }
theorem inR_zero (c : Cf) : inR c ⟨-1, 0, 0⟩ := ⟨by refine ⟨?_, ?_, ?_⟩ <;> (unfold i64B; simp), by simp, by show (-1 : Int) < c.n; omega, by simp, by simp⟩
noncomputable def rSeg (c : Cf) (s : Sg) : RSg c := by classical exact if h : inR c s then ⟨s, h⟩ else ⟨⟨-1, 0, 0⟩, inR_zero c⟩
theorem rSeg_val {c : Cf} {s : Sg} (h : inR c s) : (rSeg c s).1 = s := by unfold rSeg; rw [dif_pos h]
theorem hangW_mem {c : Cf} (hc : c.ok) {k : Sg} (hk : inR c k) (x : Sg) : x ∈ (hangW c k).map (·.1) ↔ x ∈ hangL c k := by
 have hst : 0 <= k.win * c.width k.t /\ k.win * c.width k.t <= 1000000000 := by
  obtain ⟨hw1, hw2⟩ := hc.width hk.2.1 hk.2.2.1
  have h3 := hk.2.2.2
  constructor
  ·exact Int.mul_nonneg (by omega) (by omega)
  ·have := Int.mul_le_mul (show k.win <= 100000 by omega) hw2 (by omega) (by omega); omega
 have e : (hangW c k).map (·.1) = hangL c k := by
  unfold hangW hangL
  rw [List.map_map, List.map_map]
  apply List.map_congr_left
  intro p hp
  unfold aboL at hp
  obtain ⟨i, hi, rfl⟩ := List.mem_map.1 hp
  have hi' : i < c.n := by have := (List.mem_filter.1 hi).1; simpa using this
  simp only [Function.comp]
  rw [pairSg_val hk.1.2.1, wPair_val (aboL_ok hc hst hi')]
 rw [e]
theorem mapUp {X : World} {ob : Nat} {Bl : List (Sg × Unit)} (h : zce goneM X ob Bl) (hr : Bl.length < maxLen) {s : Sg} (hs : s.wf) :
  ∃ o, (Instr.mapUpdate 138 (.map (some ob)) (.agg #[int i64 s.t, int i64 s.ser, int i64 s.win]) (.agg #[])).run Tryz.prog X = .ok () (setBlock X ob o) /\ zce goneM (setBlock X ob o) ob (zer Bl s ()) /\ zan (fun k => k = ob) X (setBlock X ob o) /\ o.isCells = false :=
 run_storeM gone_ok h hr hs ()
theorem box3p0 (w : World) (o1 o2 o3 : Obj) : (((w.alloc o1).alloc o2).alloc o3).heap[w.heap.size]? = some o1 /\ (((w.alloc o1).alloc o2).alloc o3).heap[w.heap.size + 1]? = some o2 /\ (((w.alloc o1).alloc o2).alloc o3).heap[w.heap.size + 2]? = some o3 /\ Below w.heap.size w (((w.alloc o1).alloc o2).alloc o3) /\ (((w.alloc o1).alloc o2).alloc o3).heap.size = w.heap.size + 3 := by
 obtain ⟨h1, h2, h3, h4⟩ := box2 w o1 o2
 refine ⟨(Below.heap_alloc _ _ _ (by rw [h4]; omega)).trans h1, (Below.heap_alloc _ _ _ (by rw [h4]; omega)).trans h2, ?_, h3.alloc (by rw [h4]; omega) _, by simp⟩
 have := zap ((w.alloc o1).alloc o2) o3
 rw [h4] at this; exact this
theorem kx_store {n m ob : Nat} {W W' : World} (h : zan (fun k => k = ob) W W') (hm : ob < m) : KX (fun k => k = ob) n m W W' :=
 ⟨h.mono (fun k _ e => .inl e), fun k o hx hk _ => h.heap hk hx, fun k o hx hk => h.heap hk (by omega)⟩
theorem SeqO.deep {α : Type} {n n' : Nat} {P : Program} {g : Nat} {lb : Array Value} {encs : α -> Array Value} {Kp : World -> World -> Prop} {S Sp : List α -> Prop} {N m : Nat} {w : World} (h : SeqO Fence.wide n P g lb encs Kp S Sp N m w) : SeqO Fence.wide n' P g lb encs Kp S Sp N m w :=
 fun l J Jx W hW hm hJ hJx hY h0 => callsIn_wide.2 (callsIn_wide.1 (h l J Jx W hW hm hJ hJx (fun pre x V hv hl => yield_deep rfl (hY pre x V hv hl)) h0))
theorem keeps_store {B ob : Nat} {W W' : World} (h : zan (fun k => k = ob) W W') (hB : ob < B) : KeepsFrom B W W' := ⟨h.size, fun k o hk h0 _ => h.heap h0 (by omega)⟩
theorem zda.kx {ex : Nat -> Prop} {n m : Nat} {W W' : World} {s : Nat} {c : Cf} {tv : Value} {lb gb : Nat} {Gl : List (Sg × Unit)} {L : LV} (h : zda W s c tv lb gb Gl L) (hk : KX ex n m W W') (hf : ∀ k, sfoot s tv lb gb k -> k < n /\ ¬ ex k) : zda W' s c tv lb gb Gl L :=
 h.kept hk.kept (fun k hh e => by have := hf k hh; exact e.elim this.2 (by omega))
theorem zda.foot_lt {W : World} {s : Nat} {c : Cf} {tv : Value} {lb gb : Nat} {Gl : List (Sg × Unit)} {L : LV} (h : zda W s c tv lb gb Gl L) : ∀ k, sfoot s tv lb gb k -> k < W.heap.size := fun k hk => by
 rcases hk with rfl | hk | rfl | rfl
 ·exact h.lt
 ·exact own_lt0 h.trow k hk
 ·exact h.live.lt
 ·exact h.gone.lt
theorem kx_conv {ex : Nat -> Prop} {n m n2 m2 : Nat} {V W : World} (h : KX ex n2 m2 V W) (hn : n <= n2) (hV : V.heap.size <= n2) (hex : ∀ k, ex k -> k < m) : KX ex n m V W :=
 ⟨h.kept.mono (fun k _ e => e.imp id (fun e => by omega)), h.walk, fun k o hk h0 => (h.low (by have := zaa h0; omega) (fun e => by have := hex k e; omega) (zaa h0)).trans h0⟩
set_option maxRecDepth 100000 in
set_option maxHeartbeats 8000000 in
theorem blocked_any {w : World} {s : Nat} {c : Cf} {tv : Value} {lb gb : Nat} {Gl : List (Sg × Unit)} {L : LV} (h : zda w s c tv lb gb Gl L) (hc : c.ok) (hL : ∀ p ∈ L, inR c p.1) (hlen : L.length <= 2000) :
  Calls Tryz.prog 143 #[.pointer (some ⟨s, 0, none⟩)] w fun e w' => ∃ ob Bl, e = .returned (.map (some ob)) /\ zce goneM w' ob Bl /\ (∀ x, x ∈ zaj Bl ↔ ∃ k, k ∈ zam L /\ (stL L k).st = 2 /\ x ∈ hangL c k) /\ w.heap.size <= ob /\ Below w.heap.size w w' := by
 have hsl := h.lt
 obtain ⟨y0, y1, y2, hbw, yz⟩ := box3p0 w (.cells #[.pointer (some ⟨s, 0, none⟩)] 81) (.map #[] 0) (.cells #[.map (some (w.heap.size + 1))] 138)
 obtain ⟨-, -, -, -, -, -, -, c7, -⟩ := h.cells
 have HK0 := fun W => zab (it_keys0 lb W)
 have HW0 := fun gf lb' W => zab (wh0_key gf lb' 147 #[.pointer (some ⟨s, 0, none⟩)] #[] W)
 have p0 : (((w.alloc (.cells #[.pointer (some ⟨s, 0, none⟩)] 81)).alloc (.map #[] 0)).alloc (.cells #[.map (some (w.heap.size + 1))] 138)).cell? ⟨w.heap.size, 0, none⟩ = some (.pointer (some ⟨s, 0, none⟩)) := by rw [zac y0]; rfl
 have x7 := (hbw.cell (p := ⟨s, 7, none⟩) hsl).trans c7
 have hpl : w.heap.size < (((w.alloc (.cells #[.pointer (some ⟨s, 0, none⟩)] 81)).alloc (.map #[] 0)).alloc (.cells #[.map (some (w.heap.size + 1))] 138)).heap.size := by rw [yz]; omega
 have hsX : s < (((w.alloc (.cells #[.pointer (some ⟨s, 0, none⟩)] 81)).alloc (.map #[] 0)).alloc (.cells #[.map (some (w.heap.size + 1))] 138)).heap.size := by rw [yz]; omega
 have H := zab h
 have Y0 := zab y0
 have Y1 := zab y1
 have Y2 := zab y2
 have YZ := zab yz
 have HBW := zab hbw
 have HC := zab hc
 have HL := zab hL
 clear h y0 y1 y2 yz hbw hc hL c7
 refine (callsIn_wide (n := 7)).1 ?_
 refine callsIn_of_wp_marks Tryz.func143 rfl trivial ?_ rfl
 simp only [Tryz.ntmps143, List.size_toArray, List.length_cons, List.length_nil, Nat.reduceAdd, Nat.reduceSub, Array.replicate_succ, Array.replicate_zero, List.push_toArray, List.append_toArray, List.nil_append, List.cons_append]
 refine wpIn_wide.2 ?_
 have hmm := @run_makeMap Tryz.prog
 go_wp2_with fail
 generalize (((w.alloc (.cells #[.pointer (some ⟨s, 0, none⟩)] 81)).alloc (.map #[] 0)).alloc (.cells #[.map (some (w.heap.size + 1))] 138)) = X at *
 go_region_held3 (fun w' => w'.cell? ⟨w.heap.size, 0, none⟩ = some (.pointer (some ⟨s, 0, none⟩)) /\ w'.cell? ⟨s, 7, none⟩ = some (.map (some lb))) (go_keep) (first
  | (go_at_call 145; (first | refine (ud (HK0 X)).mono ?_ | refine (ud (HK0 X.drew)).mono ?_); rintro e X1 ⟨rfl, hX1⟩; have hb1 : Below X.heap.size X X1 := (by rw [hX1]; first | exact (Below.refl _ _).alloc (Nat.le_refl _) _ | exact (Below.refl X.heap.size X).drew.alloc (Nat.le_refl _) _); have hz1 : X1.heap.size = X.heap.size + 1 := (by rw [hX1]; exact zbd _ _); have hk1 : X1.heap[X.heap.size]? = some (.cells #[.map (some lb)] 135 (0, 0)) := (by rw [hX1]; exact zap _ _); have p1 := (hb1.cell (p := ⟨w.heap.size, 0, none⟩) hpl).trans p0; have x71 := (hb1.cell (p := ⟨s, 7, none⟩) hsX).trans x7; have hpl1 := Nat.lt_of_lt_of_le hpl hb1.size; have hsX1 := Nat.lt_of_lt_of_le hsX hb1.size; have HB1 := zab hb1; have HZ1 := zab hz1; have HKB := zab hk1; clear hX1 hb1 hz1 hk1)
  | (go_at_call 144; (first | refine (ud (HW0 _ _ X1)).mono ?_ | refine (ud (HW0 _ _ X1.drew)).mono ?_); rintro e X2 ⟨rfl, hX2⟩; have hw2 : X2.heap[X1.heap.size]? = some (.cells #[.func (.func 192) #[] #[.pointer (some ⟨X.heap.size, 0, none⟩)]] 179 (0, 0)) /\ X2.heap[X1.heap.size + 1]? = some (.cells #[.func (.func 147) #[.pointer (some ⟨s, 0, none⟩)] #[]] 226 (0, 0)) /\ Below X1.heap.size X1 X2 /\ X2.heap.size = X1.heap.size + 2 := (by rw [hX2]; first | exact box2 X1 _ _ | exact (by obtain ⟨a1, a2, a3, a4⟩ := box2 X1.drew (.cells #[.func (.func 192) #[] #[.pointer (some ⟨X.heap.size, 0, none⟩)]] 179) (.cells #[.func (.func 147) #[.pointer (some ⟨s, 0, none⟩)] #[]] 226); exact ⟨a1, a2, ⟨a3.os, a3.tape, a3.output, a3.size, a3.block⟩, a4⟩)); obtain ⟨hl2, hh2, hb2, hz2⟩ := hw2; have p2 := (hb2.cell (p := ⟨w.heap.size, 0, none⟩) hpl1).trans p1; have x72 := (hb2.cell (p := ⟨s, 7, none⟩) hsX1).trans x71; have HL2 := zab hl2; have HH2 := zab hh2; have HB2 := zab hb2; have HZ2 := zab hz2; clear hX2 hl2 hh2 hb2 hz2))
 all_goals
  go_wp2_with fail
  have e0 : X.heap.size = w.heap.size + 3 := ud YZ
  have e1 : X1.heap.size = w.heap.size + 4 := by rw [ud HZ1, e0]
  have e2 : X2.heap.size = w.heap.size + 6 := by rw [ud HZ2, e1]
  have hbX2 : Below X.heap.size X X2 := (ud HB1).trans ((ud HB2).mono (ud HB1).size)
  have hw2 : Below w.heap.size w X2 := (ud HBW).trans (hbX2.mono (by omega))
  have hset2 := (ud H).later hw2
  have hfl := (ud H).foot_lt
  have hS0 := (hbX2.block _ (by omega)).trans (ud Y0)
  have hM0 := (hbX2.block _ (by omega)).trans (ud Y1)
  have hO0 := (hbX2.block _ (by omega)).trans (ud Y2)
  have hkb := ((ud HB2).block _ (by omega)).trans (ud HKB)
  have hmap0 : zce goneM X2 (w.heap.size + 1) [] := ⟨#[], 0, hM0, ⟨rfl, by simp, by simp, by simp, by simp [zaj], by simp⟩⟩
  have hseqK := it_keys (fun x : RSg c => x.1) (rSeg c) (ex := fun k => k = w.heap.size + 1) (n := w.heap.size + 6) X.heap.size lb L (fun p hp => rSeg_val (ud HL p hp)) X2 (by have := hfl lb (.inr (.inr (.inl rfl))); omega) (by omega) (by rw [zac hkb]; rfl) (live_map.1 hset2.live)
  have hseqW := where_key (fun x : RSg c => x.1) 192 #[.pointer (some ⟨X.heap.size, 0, none⟩)] en_keys 147 #[.pointer (some ⟨s, 0, none⟩)] #[] waits_enters (fun x => (stL L x.1).st == 2) X1.heap.size (X1.heap.size + 1) X2 (by omega) ⟨by omega, by omega⟩ ⟨by omega, by omega⟩ (ud HL2) (ud HH2)
   (fun x W ⟨m, hk⟩ => pwaits_any (hset2.kx hk (fun k hh => by have := hfl k hh; constructor <;> omega)) x.1 x.2.1) hseqK
  have HSW := zab hseqW
  have HE0 := zab e0
  have HE1 := zab e1
  have HE2 := zab e2
  have HSET := zab hset2
  have HS0 := zab hS0
  have HO0 := zab hO0
  have HM0 := zab hmap0
  have HFL := zab hfl
  have HW2 := zab hw2
  have HHO := fun (x : RSg c) W => zab (hangOn_any s x.1 W)
  clear hseqK hseqW e0 e1 e2 hset2 hS0 hO0 hM0 hmap0 hfl hw2 hbX2 hkb p2 x72 p1 x71 p0 x7 hpl hsX hpl1 hsX1 HK0 HW0
  refine (wpIn_wide (n := 7)).1 ?_
  refine range_O (F := Fence.wide) (n := 7) rfl (by omega) (gf := 191) (lb := #[.pointer (some ⟨X1.heap.size, 0, none⟩), .pointer (some ⟨X1.heap.size + 1, 0, none⟩)]) rfl trivial wen_key (ud HSW (X2.heap.size + 2) (by omega)) (Nat.le_refl _) (fun h k => h.trans k) (fun W o o' h hc hw => KX.putObj o' (by have := ud HE2; omega) (by omega) h hw) (Below.refl _ _) (fun _ => rfl)
   (fun pre W => (∃ Bl, zce goneM W (w.heap.size + 1) Bl /\ (∀ x, x ∈ zaj Bl ↔ ∃ k ∈ pre, x ∈ hangL c k.1) /\ Bl.length <= 4 * pre.length) /\ KX (fun k => k = w.heap.size + 1) (w.heap.size + 6) (X2.heap.size + 2) X2 W)
   (fun _ _ _ => False)
   (fun s A B row hs hg hr => ⟨by obtain ⟨Bl, b1, b2⟩ := hs.1; exact ⟨Bl, b1.same (hg.block _ b1.lt (fun e => by have := (hr _ e.symm).1; have := ud HE2; omega)), b2⟩, KX.own (β := Unit) (q := X2.heap.size) (Nat.le_refl _) () A B row hs.2 hg hr⟩)
   (fun _ _ _ _ _ hs _ _ => hs)
   ⟨⟨[], ud HM0, fun x => by simp [zaj], by simp⟩, KX.refl _ _ _ _⟩
   (fun x a' W => ∃ Bx, X2.heap.size <= Bx /\ W.heap[Bx]? = some (.cells #[int i64 x.1.t, int i64 x.1.ser, int i64 x.1.win] 137 (0, 0)) /\ a' = { tmps := #[.pointer (some ⟨s, 0, none⟩), .pointer (some ⟨w.heap.size, 0, none⟩), .map none, .pointer (some ⟨w.heap.size + 1 + 1, 0, none⟩), .pointer (some ⟨Bx, 0, none⟩), undef, .map (some (w.heap.size + 1)), .pointer (some ⟨s, 0, none⟩), .pointer (some ⟨s, 0, none⟩), .pointer (some ⟨s, 7, none⟩), .map (some lb), .func (.func 192) #[] #[.pointer (some ⟨X.heap.size, 0, none⟩)], .pointer (some ⟨s, 0, none⟩), .func (.func 147) #[.pointer (some ⟨s, 0, none⟩)] #[], .func (.func 191) #[] #[.pointer (some ⟨X1.heap.size, 0, none⟩), .pointer (some ⟨X1.heap.size + 1, 0, none⟩)], .agg #[int i64 x.1.t, int i64 x.1.ser, int i64 x.1.win], undef, undef, undef, undef, undef, undef, undef, undef], defers := [] })
   (fun x a' s A B row hs hg hr => by
    obtain ⟨Bx, h1, h2, h3⟩ := hs
    exact ⟨Bx, h1, zbc h2 hg (fun r e => (hr r e).2), h3⟩) ?assign ?body ?done ?stop
  case assign =>
   rintro l pre x W K ⟨⟨Bl, b1, b2⟩, i2⟩ hK
   have HK := zab hK
   have hzW := i2.kept.size
   clear hK
   gi_wp2
   have hba := (Below.refl W.heap.size W).alloc (Nat.le_refl _) (.cells #[int i64 x.1.t, int i64 x.1.ser, int i64 x.1.win] 137)
   refine ud HK _ _ (zba hba) (KX.of_below hba) ⟨⟨Bl, b1.later hba, b2⟩, i2.trans (KX.of_below hba)⟩ ⟨W.heap.size, hzW, zap _ _, rfl⟩
  case body =>
   rintro l pre x a' W hl ⟨r, hr⟩ ⟨⟨Bl, b1, b2, b3⟩, i2⟩ ⟨Bx, hBx, hx, rfl⟩ hlt
   have hzW := i2.kept.size
   have e2 : X2.heap.size = w.heap.size + 6 := ud HE2
   have hs1 := zdg i2 (ud HS0) (by omega) (by omega)
   have ho1 := zdg i2 (ud HO0) (by omega) (by omega)
   have hset1 := (ud HSET).kx i2 (fun k hh => by have := ud HFL k hh; constructor <;> omega)
   have sc : W.cell? ⟨w.heap.size, 0, none⟩ = some (.pointer (some ⟨s, 0, none⟩)) := by rw [zac hs1]; rfl
   have kc0 : W.cell? ⟨Bx, 0, none⟩ = some (int i64 x.1.t) := by rw [zac hx]; rfl
   have kc1 : W.cell? ⟨Bx, 1, none⟩ = some (int i64 x.1.ser) := by rw [zac hx]; rfl
   have kc2 : W.cell? ⟨Bx, 2, none⟩ = some (int i64 x.1.win) := by rw [zac hx]; rfl
   have hBz := zaa hx
   have hwW := zaa hs1
   obtain ⟨v0, v1, vb, vz⟩ := box2 W (.cells #[.pointer (some ⟨s, 0, none⟩)] 81) (.cells #[int i64 x.1.t, int i64 x.1.ser, int i64 x.1.win] 137)
   have hrl := zaa hr
   have HRV := zab ((vb.block l hrl).trans hr)
   have HV0 := zab v0
   have HV1 := zab v1
   have HVB := zab vb
   have HVZ := zab vz
   have HO1 := zab ho1
   have HSE1 := zab hset1
   have HI2 := zab i2
   have HBl := zab b1
   have HBk := zab b2
   have HBn := zab b3
   have HHX := HHO x W
   have hlp : pre.length < 2000 := by omega
   have hbx2 := hBx
   clear v0 v1 vb vz hs1 ho1 hset1 i2 b1 b2 b3 hx hr e2 hBx
   gi_wp2_with (first | (refine ⟨trivial, ?_⟩; gi_at_call 151; refine (CallsIn.inRound l (callsIn_wide.2 (ud HHX))).mono ?_; rintro e V ⟨rfl, hV⟩; rw [<- hV] at HRV HV0 HV1 HVB HVZ; clear hV) | gi_in)
   have e2 : X2.heap.size = w.heap.size + 6 := ud HE2
   have vz : V.heap.size = W.heap.size + 2 := ud HVZ
   have hsetV := (ud HSE1).later (ud HVB)
   have hmapV := (ud HBl).later (ud HVB)
   have hoV := ((ud HVB).block _ (by omega)).trans (ud HO1)
   have hseq2 := hang_seq (ex := fun k => k = w.heap.size + 1) (n := V.heap.size) W.heap.size (W.heap.size + 1) s x.1 c (ud HC) tv lb gb x.2.2.1 x.2.2.2.1 x.2.2.2.2 x.2.1.2.1 V (Nat.le_refl _) ⟨ud HV0, ud HV1, hsetV.hd⟩ ⟨by omega, by omega⟩ ⟨by omega, by omega⟩ ⟨by have := ud HFL s (.inl rfl); omega, by have := ud HFL s (.inl rfl); omega⟩ (fun g hg => by have := ud HFL g (.inr (.inl hg)); constructor <;> omega)
   have HSQ := zab hseq2
   have HMV := zab hmapV
   have HOV := zab hoV
   clear hseq2 hsetV hmapV hoV vz e2 sc kc0 kc1 kc2
   refine rangeN_O (F := Fence.wide.inRound l) (n := 5) (l₀ := l) (r₀ := r) rfl (ud HRV) (by omega) (gf := 196) (lb := #[.pointer (some ⟨W.heap.size, 0, none⟩), .pointer (some ⟨W.heap.size + 1, 0, none⟩)]) rfl trivial hang_enters (((ud HSQ (V.heap.size + 1) (by omega)).deep (n' := 4)).inRound l) (Nat.le_refl _) (fun h k => h.trans k) (fun W o o' h hc hw => KX.putObj o' (Nat.le_refl _) (by omega) h hw) (Below.refl _ _) (fun _ => rfl)
    (fun pre2 W2 => (∃ Bl2, zce goneM W2 (w.heap.size + 1) Bl2 /\ (∀ y, y ∈ zaj Bl2 ↔ (∃ k ∈ pre, y ∈ hangL c k.1) \/ y ∈ pre2.map (fun z : WSg => z.1)) /\ Bl2.length <= 4 * pre.length + pre2.length) /\ KX (fun k => k = w.heap.size + 1) V.heap.size (V.heap.size + 1) V W2)
    (fun _ _ _ => False)
    (fun s A B row hs hg hr => ⟨by obtain ⟨Bl, b1, b2⟩ := hs.1; exact ⟨Bl, b1.same (hg.block _ b1.lt (fun e => by have := (hr _ e.symm).1; have := ud HE2; have := ud HVZ; omega)), b2⟩, KX.own (β := Unit) (q := V.heap.size) (Nat.le_refl _) () A B row hs.2 hg hr⟩)
    (fun _ _ _ _ _ hs _ _ => hs)
    ⟨⟨Bl, ud HMV, fun y => by rw [ud HBk y]; simp, by simpa using ud HBn⟩, KX.refl _ _ _ _⟩
    (fun y a' W2 => ∃ By, V.heap.size <= By /\ W2.heap[By]? = some (.cells #[int i64 y.1.t, int i64 y.1.ser, int i64 y.1.win] 137 (0, 0)) /\ a' = { tmps := #[.pointer (some ⟨s, 0, none⟩), .pointer (some ⟨w.heap.size, 0, none⟩), .map none, .pointer (some ⟨w.heap.size + 1 + 1, 0, none⟩), .pointer (some ⟨Bx, 0, none⟩), .pointer (some ⟨By, 0, none⟩), .map (some (w.heap.size + 1)), .pointer (some ⟨s, 0, none⟩), .pointer (some ⟨s, 0, none⟩), .pointer (some ⟨s, 7, none⟩), .map (some lb), .func (.func 192) #[] #[.pointer (some ⟨X.heap.size, 0, none⟩)], .pointer (some ⟨s, 0, none⟩), .func (.func 147) #[.pointer (some ⟨s, 0, none⟩)] #[], .func (.func 191) #[] #[.pointer (some ⟨X1.heap.size, 0, none⟩), .pointer (some ⟨X1.heap.size + 1, 0, none⟩)], .agg #[int i64 x.1.t, int i64 x.1.ser, int i64 x.1.win], .pointer (some ⟨s, 0, none⟩), .agg #[int i64 x.1.t, int i64 x.1.ser, int i64 x.1.win], .func (.func 196) #[] #[.pointer (some ⟨W.heap.size, 0, none⟩), .pointer (some ⟨W.heap.size + 1, 0, none⟩)], .agg #[int i64 y.1.t, int i64 y.1.ser, int i64 y.1.win], undef, undef, undef, undef], defers := [] })
    (fun y a' s A B row hs hg hr => by
     obtain ⟨By, h1, h2, h3⟩ := hs
     exact ⟨By, h1, zbc h2 hg (fun r e => (hr r e).2), h3⟩) ?assign2 ?body2 ?done2 ?stop2
   case assign2 =>
    rintro l2 pre2 y W2 K ⟨⟨Bl2, d1, d2⟩, j2⟩ hK
    have HK := zab hK
    have hzW2 := j2.kept.size
    clear hK
    gi_wp2
    have hba := (Below.refl W2.heap.size W2).alloc (Nat.le_refl _) (.cells #[int i64 y.1.t, int i64 y.1.ser, int i64 y.1.win] 137)
    refine ud HK _ _ (zba hba) (KX.of_below hba) ⟨⟨Bl2, d1.later hba, d2⟩, j2.trans (KX.of_below hba)⟩ ⟨W2.heap.size, hzW2, zap _ _, rfl⟩
   case body2 =>
    rintro l2 pre2 y a' W2 hl2 _ ⟨⟨Bl2, d1, d2, d3⟩, j2⟩ ⟨By, hBy, hy, rfl⟩ hlt2
    have hn4 := (ud HC).n4
    have e2 : X2.heap.size = w.heap.size + 6 := ud HE2
    have vz : V.heap.size = W.heap.size + 2 := ud HVZ
    have ho2 := zdg j2 (ud HOV) (by omega) (by omega)
    have oc : W2.cell? ⟨w.heap.size + 1 + 1, 0, none⟩ = some (.map (some (w.heap.size + 1))) := by rw [zac ho2]; rfl
    have yc0 : W2.cell? ⟨By, 0, none⟩ = some (int i64 y.1.t) := by rw [zac hy]; rfl
    have yc1 : W2.cell? ⟨By, 1, none⟩ = some (int i64 y.1.ser) := by rw [zac hy]; rfl
    have yc2 : W2.cell? ⟨By, 2, none⟩ = some (int i64 y.1.win) := by rw [zac hy]; rfl
    have hyz := zaa hy
    have hoz := zaa ho2
    obtain ⟨o, hrun, hm2, hk2, ho⟩ := mapUp d1 (by simp only [maxLen]; omega) y.2
    have hobV : w.heap.size + 1 < V.heap.size := by omega
    have HM2 := zab hm2
    have HK2 := zab hk2
    have HJ2 := zab j2
    have HD2 := zab d2
    have HD3 := zab d3
    clear ho2 hm2 hk2 j2 d1 d2 d3 hy vz e2
    gi_wp2
    refine ⟨keeps_store (ud HK2) hobV, kx_store (ud HK2) (by omega), ⟨_, ud HM2, fun z => ?_, ?_⟩, (ud HJ2).trans (kx_store (ud HK2) (by omega))⟩
    ·rw [zbw, ud HD2 z, List.map_append, List.mem_append]; simp [or_assoc]
    ·rw [length_putM]; have := ud HD3; simp only [List.length_append, List.length_cons, List.length_nil]; split <;> omega
   case done2 =>
    rintro xs W2 hS ⟨⟨Bl2, d1, d2, d3⟩, j2⟩
    subst hS
    have hn4 := (ud HC).n4
    have hwl := hangW_len c x.1
    have e2 : X2.heap.size = w.heap.size + 6 := ud HE2
    have vz : V.heap.size = W.heap.size + 2 := ud HVZ
    have hkO : KX (fun k => k = w.heap.size + 1) (w.heap.size + 6) (X2.heap.size + 2) V W2 := kx_conv j2 (by omega) (Nat.le_refl _) (fun k e => by omega)
    have hkO0 : KX (fun k => k = w.heap.size + 1) (w.heap.size + 6) X2.heap.size V W2 := kx_conv j2 (by omega) (Nat.le_refl _) (fun k e => by omega)
    have HKO := zab hkO
    have HKF := zab ((zba (B := X2.heap.size) (ud HVB)).trans (hkO0.from (Nat.le_refl _)))
    have HD1 := zab d1
    have HD2 := zab d2
    have HD3 := zab d3
    clear hkO hkO0 d1 d2 d3 j2 vz e2
    gi_wp2
    refine ⟨ud HKF, (KX.of_below (ud HVB)).trans (ud HKO), ⟨_, ud HD1, fun z => ?_, ?_⟩, (ud HI2).trans ((KX.of_below (ud HVB)).trans (ud HKO))⟩
    ·rw [ud HD2 z]
     have := hangW_mem (ud HC) x.2 z
     unfold hangW at this
     rw [this]
     constructor
     ·rintro (⟨k, hk, hz⟩ | hz)
      ·exact ⟨k, List.mem_append_left _ hk, hz⟩
      ·exact ⟨x, by simp, hz⟩
     ·rintro ⟨k, hk, hz⟩
      rcases List.mem_append.1 hk with hk | hk
      ·exact .inl ⟨k, hk, hz⟩
      ·simp at hk; subst hk; exact .inr hz
    ·have := ud HD3
     unfold hangW at hwl
     simp only [List.length_append, List.length_cons, List.length_nil]
     omega
   case stop2 =>
    rintro cc pre2 W2 _ hh
    exact hh.elim
  case done =>
   rintro D xs W hD ⟨zs, ⟨ps, hp, rfl⟩, rfl⟩ ⟨⟨Bl, b1, b2, b3⟩, i2⟩ hK
   have e2 : X2.heap.size = w.heap.size + 6 := ud HE2
   have ho1 := zdg i2 (ud HO0) (by omega) (by omega)
   have oc : W.cell? ⟨w.heap.size + 1 + 1, 0, none⟩ = some (.map (some (w.heap.size + 1))) := by rw [zac ho1]; rfl
   have hoz := zaa ho1
   have hDo : D ≠ w.heap.size + 1 := by omega
   have HB1 := zab (zce.same b1 (World.putObj_heap_other (o := .deferred none) (w := W) (fun e => hDo e.symm)))
   have HB2 := zab b2
   have HBB : Hid (Below w.heap.size w (W.putObj D (.deferred none))) := by
    have hk : Below w.heap.size X2 W := ⟨i2.kept.os, i2.kept.tape, i2.kept.output, i2.kept.size, fun k hk => i2.low (by omega) (by omega) (by omega)⟩
    exact zdp ((ud HW2).trans hk) (Nat.le_refl _) (by omega) hK _
   clear ho1 i2 b1 b2 b3 e2
   gi_wp2
   go_wp2_with fail
   refine ⟨by simp, .inl ⟨_, _, rfl, run_takeDeferred hK, ?_⟩⟩
   refine ⟨_, results_tmp rfl _ _ _, w.heap.size + 1, Bl, rfl, ud HB1, fun z => ?_, Nat.le_succ _, ud HBB⟩
   rw [ud HB2 z]
   have hmem : ∀ k : Sg, (∃ q ∈ (ps.map (fun p : Sg × SV => rSeg c p.1)).filter (fun q => (stL L q.1).st == 2), q.1 = k) ↔ k ∈ zam L /\ (stL L k).st = 2 := fun k => by
    constructor
    ·rintro ⟨q, hq, rfl⟩
     obtain ⟨h1, h2⟩ := List.mem_filter.1 hq
     obtain ⟨p, hpm, rfl⟩ := List.mem_map.1 h1
     have hpL := hp.mem_iff.1 hpm
     rw [rSeg_val (ud HL p hpL)] at h2 ⊢
     exact ⟨List.mem_map.2 ⟨p, hpL, rfl⟩, by simpa using h2⟩
    ·rintro ⟨h1, h2⟩
     obtain ⟨p, hpL, rfl⟩ := List.mem_map.1 (show k ∈ L.map (·.1) from h1)
     refine ⟨rSeg c p.1, List.mem_filter.2 ⟨List.mem_map.2 ⟨p, hp.mem_iff.2 hpL, rfl⟩, ?_⟩, rSeg_val (ud HL p hpL)⟩
     rw [rSeg_val (ud HL p hpL)]; simpa using h2
   constructor
   ·rintro ⟨q, hq, hz⟩
    obtain ⟨a1, a2⟩ := (hmem q.1).1 ⟨q, hq, rfl⟩
    exact ⟨q.1, a1, a2, hz⟩
   ·rintro ⟨k, a1, a2, hz⟩
    obtain ⟨q, hq, rfl⟩ := (hmem k).2 ⟨a1, a2⟩
    exact ⟨q, hq, hz⟩
  case stop =>
   rintro D c pre W _ _ h _
   exact h.elim
end Go.Proofs.YtpbimdkclnekeaaGreat

namespace Go.Proofs.YtpbimdkclnekeaaGreat
open Value (int)
open IntKind (i64)
open Go.RowKit Go.Maps Go.Shelf
set_option linter.unusedVariables false
theorem rol_enters : ∀ args w, (callFunc 146 args).run Tryz.prog w = .ok (.enter 146 args) w := enters_of Tryz.func146 (by kernel_rfl) rfl
theorem rec_enters : ∀ args w, (callFunc 148 args).run Tryz.prog w = .ok (.enter 148 args) w := enters_of Tryz.func148 (by kernel_rfl) rfl
theorem seqO_same {α : Type} {F : Fence} {n : Nat} {P : Program} {g : Nat} {lb : Array Value} {encs : α -> Array Value} {Kp : World -> World -> Prop} {S S' Sp : List α -> Prop} {N m : Nat} {w : World} (h : SeqO F n P g lb encs Kp S Sp N m w) (hs : ∀ xs, S xs -> S' xs) : SeqO F n P g lb encs Kp S' Sp N m w :=
 fun l J Jx W hW hm hJ hJx hY h0 => (h l J Jx W hW hm hJ hJx hY h0).mono fun e V ⟨h1, h2⟩ => ⟨h1, h2.imp (fun ⟨xs, a, b⟩ => ⟨xs, hs xs a, b⟩) id⟩
set_option maxRecDepth 8000 in
set_option maxHeartbeats 4000000 in
theorem reclaimable_any {w : World} {s : Nat} {c : Cf} {tv : Value} {lb gb : Nat} {Gl : List (Sg × Unit)} {L : LV} (h : zda w s c tv lb gb Gl L) (hc : c.ok) (hL : ∀ p ∈ L, inR c p.1) (now : Int) (hnow : 0 <= now /\ now <= 100000) :
  Calls Tryz.prog 96 #[.pointer (some ⟨s, 0, none⟩), int i64 now] w fun e w' => ∃ Bl Bh, e = .returned (.func (.func 191) #[] #[.pointer (some ⟨Bl, 0, none⟩), .pointer (some ⟨Bh, 0, none⟩)]) /\ Below w.heap.size w w' /\
   ∀ ex : Nat -> Prop, (∀ k, ex k -> k < w.heap.size /\ ¬ sfoot s tv lb gb k) -> SeqF ex w'.heap.size Tryz.prog 191 #[.pointer (some ⟨Bl, 0, none⟩), .pointer (some ⟨Bh, 0, none⟩)] (fun x : RSg c => #[.agg #[int i64 x.1.t, int i64 x.1.ser, int i64 x.1.win]]) (fun ys => ∃ ps : LV, ps.Perm L /\ ys = (ps.map (fun p : Sg × SV => rSeg c p.1)).filter (fun x => reclB c L now x.1)) L.length w' := by
 have hsl := h.lt
 obtain ⟨y0, y1, hbw, yz⟩ := box2 w (.cells #[.pointer (some ⟨s, 0, none⟩)] 81) (.cells #[int i64 now] 3)
 obtain ⟨-, -, -, -, -, -, -, c7, -⟩ := h.cells
 have HK0 := zab (it_keys0 lb ((w.alloc (.cells #[.pointer (some ⟨s, 0, none⟩)] 81)).alloc (.cells #[int i64 now] 3)))
 have p0 : ((w.alloc (.cells #[.pointer (some ⟨s, 0, none⟩)] 81)).alloc (.cells #[int i64 now] 3)).cell? ⟨w.heap.size, 0, none⟩ = some (.pointer (some ⟨s, 0, none⟩)) := by rw [zac y0]; rfl
 have x7 := (hbw.cell (p := ⟨s, 7, none⟩) hsl).trans c7
 have hpl : w.heap.size < ((w.alloc (.cells #[.pointer (some ⟨s, 0, none⟩)] 81)).alloc (.cells #[int i64 now] 3)).heap.size := by rw [yz]; omega
 have hsX : s < ((w.alloc (.cells #[.pointer (some ⟨s, 0, none⟩)] 81)).alloc (.cells #[int i64 now] 3)).heap.size := by rw [yz]; omega
 have H := zab h
 have Y0 := zab y0
 have Y1 := zab y1
 have YZ := zab yz
 have HBW := zab hbw
 have HC := zab hc
 have HL := zab hL
 have HNO := zab hnow
 clear h y0 y1 yz hbw hc hL c7 hnow
 go_enter Tryz.func96, Tryz.ntmps96
 go_wp2_with fail
 generalize ((w.alloc (.cells #[.pointer (some ⟨s, 0, none⟩)] 81)).alloc (.cells #[int i64 now] 3)) = X at *
 refine (ud HK0).mono ?_
 rintro e X1 ⟨rfl, hX1⟩
 have hb1 : Below X.heap.size X X1 := by rw [hX1]; exact (Below.refl _ _).alloc (Nat.le_refl _) _
 have HZ1 : Hid (X1.heap.size = X.heap.size + 1) := by show X1.heap.size = _; rw [hX1]; exact zbd _ _
 have HKB : Hid (X1.heap[X.heap.size]? = some (.cells #[.map (some lb)] 135 (0, 0))) := by show X1.heap[X.heap.size]? = _; rw [hX1]; exact zap _ _
 have HB1 := zab hb1
 have HW1 := zab (wh0_key 192 #[.pointer (some ⟨X.heap.size, 0, none⟩)] 148 #[] #[.pointer (some ⟨w.heap.size, 0, none⟩), .pointer (some ⟨w.heap.size + 1, 0, none⟩)] X1)
 clear hX1 hb1 p0 x7
 go_wp2_with fail
 refine (ud HW1).mono ?_
 rintro e X2 ⟨rfl, hX2⟩
 obtain ⟨a1, a2, a3, a4⟩ := box2 X1 (.cells #[.func (.func 192) #[] #[.pointer (some ⟨X.heap.size, 0, none⟩)]] 179) (.cells #[.func (.func 148) #[] #[.pointer (some ⟨w.heap.size, 0, none⟩), .pointer (some ⟨w.heap.size + 1, 0, none⟩)]] 226)
 rw [<- hX2] at a1 a2 a3 a4
 have A1 := zab a1
 have A2 := zab a2
 have A3 := zab a3
 have A4 := zab a4
 clear hX2 a1 a2 a3 a4
 go_wp2_with fail
 go_ret
 have e0 : X.heap.size = w.heap.size + 2 := ud YZ
 have e1 : X1.heap.size = X.heap.size + 1 := ud HZ1
 have e2 : X2.heap.size = X1.heap.size + 2 := ud A4
 have hbX2 : Below X.heap.size X X2 := (ud HB1).trans ((ud A3).mono (ud HB1).size)
 have hw2 : Below w.heap.size w X2 := (ud HBW).trans (hbX2.mono (by omega))
 refine ⟨X1.heap.size, X1.heap.size + 1, rfl, hw2, fun ex hex => ?_⟩
 have hset := (ud H).later hw2
 have hfl := (ud H).foot_lt
 have hnex : ∀ k, w.heap.size <= k -> ¬ ex k := fun k hk e => by have := (hex k e).1; omega
 have hfoot : ∀ k, sfoot s tv lb gb k -> k < X2.heap.size /\ ¬ ex k := fun k hk => ⟨by have := hfl k hk; omega, fun e => (hex k e).2 hk⟩
 have hkb := ((ud A3).block _ (by omega)).trans (ud HKB)
 have hs0 := (hbX2.block _ (by omega)).trans (ud Y0)
 have hn0 := (hbX2.block _ (by omega)).trans (ud Y1)
 have hW := where_key (fun x : RSg c => x.1) _ _ en_keys _ #[] _ rec_enters (ex := ex) (n := X2.heap.size) (fun x => reclB c L now x.1) X1.heap.size (X1.heap.size + 1) X2 (Nat.le_refl _) ⟨by omega, hnex _ (by omega)⟩ ⟨by omega, hnex _ (by omega)⟩ (ud A1) (ud A2)
  (fun x W ⟨m, hk⟩ => by
   have q0 := zdg hk hs0 (by omega) (hnex _ (by omega))
   have q1 := zdg hk hn0 (by omega) (hnex _ (by omega))
   exact reclaimable1_any (hset.kx hk hfoot) (ud HC) x.1 x.2.1 x.2.2.1 x.2.2.2.1 x.2.2.2.2 now (ud HNO) w.heap.size (w.heap.size + 1) (by rw [zac q0]; rfl) (by rw [zac q1]; rfl) (zaa q0) (zaa q1))
  (it_keys (fun x : RSg c => x.1) (rSeg c) (ex := ex) (n := X2.heap.size) X.heap.size lb L (fun p hp => rSeg_val (ud HL p hp)) X2 (hfoot lb (.inr (.inr (.inl rfl)))).2 (by omega) (by rw [zac hkb]; rfl) (live_map.1 hset.live))
 exact fun m hm => seqO_same (hW m hm) (fun ys ⟨xs, ⟨ps, hp, e1⟩, e2⟩ => ⟨ps, hp, by rw [e2, e1]⟩)
set_option maxRecDepth 8000 in
set_option maxHeartbeats 4000000 in
theorem rollable_any {w : World} {s : Nat} {c : Cf} {tv : Value} {lb gb : Nat} {Gl : List (Sg × Unit)} {L : LV} (h : zda w s c tv lb gb Gl L) (hc : c.ok) (hL : ∀ p ∈ L, inR c p.1) (hlen : L.length <= 2000) (now : Int) (hnow : 0 <= now /\ now <= 100000) :
  Calls Tryz.prog 94 #[.pointer (some ⟨s, 0, none⟩), int i64 now] w fun e w' => ∃ Bl Bh Bs, e = .returned (.func (.func 191) #[] #[.pointer (some ⟨Bl, 0, none⟩), .pointer (some ⟨Bh, 0, none⟩)]) /\ Below w.heap.size w w' /\ (∀ x, x ∈ zaj Bs ↔ ∃ k, k ∈ zam L /\ (stL L k).st = 2 /\ x ∈ hangL c k) /\
   ∀ ex : Nat -> Prop, (∀ k, ex k -> k < w.heap.size /\ ¬ sfoot s tv lb gb k) -> SeqF ex w'.heap.size Tryz.prog 191 #[.pointer (some ⟨Bl, 0, none⟩), .pointer (some ⟨Bh, 0, none⟩)] (fun x : RSg c => #[.agg #[int i64 x.1.t, int i64 x.1.ser, int i64 x.1.win]]) (fun ys => ∃ ps : LV, ps.Perm L /\ ys = (ps.map (fun p : Sg × SV => rSeg c p.1)).filter (fun x => rollB c Bs L now x.1)) L.length w' := by
 have hsl := h.lt
 obtain ⟨y0, y1, hbw, yz⟩ := box2 w (.cells #[.pointer (some ⟨s, 0, none⟩)] 81) (.cells #[int i64 now] 3)
 obtain ⟨-, -, -, -, -, -, -, c7, -⟩ := h.cells
 have HBK := zab (blocked_any (h.later hbw) hc hL hlen)
 have p0 : ((w.alloc (.cells #[.pointer (some ⟨s, 0, none⟩)] 81)).alloc (.cells #[int i64 now] 3)).cell? ⟨w.heap.size, 0, none⟩ = some (.pointer (some ⟨s, 0, none⟩)) := by rw [zac y0]; rfl
 have x7 := (hbw.cell (p := ⟨s, 7, none⟩) hsl).trans c7
 have hpl : w.heap.size < ((w.alloc (.cells #[.pointer (some ⟨s, 0, none⟩)] 81)).alloc (.cells #[int i64 now] 3)).heap.size := by rw [yz]; omega
 have hsX : s < ((w.alloc (.cells #[.pointer (some ⟨s, 0, none⟩)] 81)).alloc (.cells #[int i64 now] 3)).heap.size := by rw [yz]; omega
 have H := zab h
 have Y0 := zab y0
 have Y1 := zab y1
 have YZ := zab yz
 have HBW := zab hbw
 have HC := zab hc
 have HL := zab hL
 have HNO := zab hnow
 clear h y0 y1 yz hbw hc hL c7 hnow
 go_enter Tryz.func94, Tryz.ntmps94
 go_wp2_with fail
 generalize ((w.alloc (.cells #[.pointer (some ⟨s, 0, none⟩)] 81)).alloc (.cells #[int i64 now] 3)) = X at *
 refine (ud HBK).mono ?_
 rintro e X0 ⟨ob, Bs, rfl, hob, hobk, hobz, hb0⟩
 have bb := zap X0 (.cells #[.map (some ob)] 138)
 have hbb : Below X0.heap.size X0 (X0.alloc (.cells #[.map (some ob)] 138)) := (Below.refl _ _).alloc (Nat.le_refl _) _
 have hzb := zbd X0 (.cells #[.map (some ob)] 138)
 have hb0b := hb0.trans (hbb.mono hb0.size)
 have p1 := (hb0b.cell (p := ⟨w.heap.size, 0, none⟩) hpl).trans p0
 have x71 := (hb0b.cell (p := ⟨s, 7, none⟩) hsX).trans x7
 have hob2 := hob.later hbb
 have hpl1 := Nat.lt_of_lt_of_le hpl hb0b.size
 have hsX1 := Nat.lt_of_lt_of_le hsX hb0b.size
 have HBB := zab bb
 have HZB := zab hzb
 have HB0 := zab hb0b
 have HOB := zab hob2
 have HOK := zab hobk
 have HOZ := zab hobz
 have HZ0 := zab hb0.size
 have HK0 := zab (it_keys0 lb (X0.alloc (.cells #[.map (some ob)] 138)))
 clear bb hbb hzb hb0b hob hob2 hobk hobz hb0 p0 x7 hpl hsX
 go_wp2_with fail
 generalize (X0.alloc (.cells #[.map (some ob)] 138)) = Z at *
 refine (ud HK0).mono ?_
 rintro e X1 ⟨rfl, hX1⟩
 have hb1 : Below Z.heap.size Z X1 := by rw [hX1]; exact (Below.refl _ _).alloc (Nat.le_refl _) _
 have HZ1 : Hid (X1.heap.size = Z.heap.size + 1) := by show X1.heap.size = _; rw [hX1]; exact zbd _ _
 have HKB : Hid (X1.heap[Z.heap.size]? = some (.cells #[.map (some lb)] 135 (0, 0))) := by show X1.heap[Z.heap.size]? = _; rw [hX1]; exact zap _ _
 have HB1 := zab hb1
 have HW1 := zab (wh0_key 192 #[.pointer (some ⟨Z.heap.size, 0, none⟩)] 146 #[] #[.pointer (some ⟨X0.heap.size, 0, none⟩), .pointer (some ⟨w.heap.size, 0, none⟩), .pointer (some ⟨w.heap.size + 1, 0, none⟩)] X1)
 clear hX1 hb1 p1 x71
 go_wp2_with fail
 refine (ud HW1).mono ?_
 rintro e X2 ⟨rfl, hX2⟩
 obtain ⟨a1, a2, a3, a4⟩ := box2 X1 (.cells #[.func (.func 192) #[] #[.pointer (some ⟨Z.heap.size, 0, none⟩)]] 179) (.cells #[.func (.func 146) #[] #[.pointer (some ⟨X0.heap.size, 0, none⟩), .pointer (some ⟨w.heap.size, 0, none⟩), .pointer (some ⟨w.heap.size + 1, 0, none⟩)]] 226)
 rw [<- hX2] at a1 a2 a3 a4
 have A1 := zab a1
 have A2 := zab a2
 have A3 := zab a3
 have A4 := zab a4
 clear hX2 a1 a2 a3 a4
 go_wp2_with fail
 go_ret
 have e0 : X.heap.size = w.heap.size + 2 := ud YZ
 have ez : Z.heap.size = X0.heap.size + 1 := ud HZB
 have e1 : X1.heap.size = Z.heap.size + 1 := ud HZ1
 have eX : X.heap.size <= X0.heap.size := ud HZ0
 have eo := ud HOZ
 have e2 : X2.heap.size = X1.heap.size + 2 := ud A4
 have hbZ2 : Below Z.heap.size Z X2 := (ud HB1).trans ((ud A3).mono (ud HB1).size)
 have hbX2 : Below X.heap.size X X2 := (ud HB0).trans (hbZ2.mono (by omega))
 have hw2 : Below w.heap.size w X2 := (ud HBW).trans (hbX2.mono (by omega))
 refine ⟨X1.heap.size, X1.heap.size + 1, Bs, rfl, hw2, ud HOK, fun ex hex => ?_⟩
 have hset := (ud H).later hw2
 have hfl := (ud H).foot_lt
 have hnex : ∀ k, w.heap.size <= k -> ¬ ex k := fun k hk e => by have := (hex k e).1; omega
 have hfoot : ∀ k, sfoot s tv lb gb k -> k < X2.heap.size /\ ¬ ex k := fun k hk => ⟨by have := hfl k hk; omega, fun e => (hex k e).2 hk⟩
 have hkb := ((ud A3).block _ (by omega)).trans (ud HKB)
 have hob3 := (ud HOB).later hbZ2
 have hbl := (hbZ2.block _ (by omega)).trans (ud HBB)
 have hobl := hob3.lt
 have hs0 := (hbX2.block _ (by omega)).trans (ud Y0)
 have hn0 := (hbX2.block _ (by omega)).trans (ud Y1)
 have hW := where_key (fun x : RSg c => x.1) _ _ en_keys _ #[] _ rol_enters (ex := ex) (n := X2.heap.size) (fun x => rollB c Bs L now x.1) X1.heap.size (X1.heap.size + 1) X2 (Nat.le_refl _) ⟨by omega, hnex _ (by omega)⟩ ⟨by omega, hnex _ (by omega)⟩ (ud A1) (ud A2)
  (fun x W ⟨m, hk⟩ => by
   have q0 := zdg hk hs0 (by omega) (hnex _ (by omega))
   have q1 := zdg hk hn0 (by omega) (hnex _ (by omega))
   have q2 := zdg hk hbl (by omega) (hnex _ (by omega))
   exact rollable1_any (hset.kx hk hfoot) (ud HC) (zce.kept hob3 hk.kept (fun e => e.elim (hnex _ (by omega)) (by omega))) x.1 x.2.1 x.2.2.1 x.2.2.2.1 x.2.2.2.2 now (ud HNO) X0.heap.size w.heap.size (w.heap.size + 1) (by rw [zac q2]; rfl) (by rw [zac q0]; rfl) (by rw [zac q1]; rfl) (zaa q2) (zaa q0) (zaa q1))
  (it_keys (fun x : RSg c => x.1) (rSeg c) (ex := ex) (n := X2.heap.size) Z.heap.size lb L (fun p hp => rSeg_val (ud HL p hp)) X2 (hfoot lb (.inr (.inr (.inl rfl)))).2 (by omega) (by rw [zac hkb]; rfl) (live_map.1 hset.live))
 exact fun m hm => seqO_same (hW m hm) (fun ys ⟨xs, ⟨ps, hp, e1⟩, e2⟩ => ⟨ps, hp, by rw [e2, e1]⟩)
end Go.Proofs.YtpbimdkclnekeaaGreat
