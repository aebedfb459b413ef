import Derived.Test.YtpbimdkclnekeaaGreatTJn1

namespace Go.Proofs.YtpbimdkclnekeaaGreat
open Value (int)
open IntKind (i64)
open Go.RowKit Go.Maps Go.Shelf
open Go.ChangeMaps (setBlock)
set_option linter.unusedVariables false
attribute [local go_sem] Oper.semAt_some
theorem raw_new {c : Cf} {L : LV} {ser tm val win : Int} (hw : tm / c.width (-1) = win) (hv : -2147483648 <= val /\ val <= 2147483647) (hg : (getL L ⟨-1, ser, win⟩).isSome = false) : putL L ⟨-1, ser, win⟩ ⟨1, zdn [newCl val]⟩ = zct c L ⟨ser, tm, val⟩ := by
 subst hw
 unfold zct
 have e : zbx c ⟨ser, tm, val⟩ = ⟨-1, ser, tm / c.width (-1)⟩ := rfl
 rw [e]
 cases h : getL L ⟨-1, ser, tm / c.width (-1)⟩ with
 | none => rw [join_one val hv]; rfl
 | some v => rw [h] at hg; simp at hg
theorem raw_old {c : Cf} {L : LV} {ser tm val win : Int} {sv : SV} (hw : tm / c.width (-1) = win) (hv : -2147483648 <= val /\ val <= 2147483647) (hg : (getL L ⟨-1, ser, win⟩).isSome = true) (hs : stL L ⟨-1, ser, win⟩ = sv) (hsm : ∀ p ∈ L, p.1.t = -1 -> p.2.cl.small) : putL L ⟨-1, ser, win⟩ ⟨1, zdn [newCl val, sv.cl]⟩ = zct c L ⟨ser, tm, val⟩ := by
 subst hw hs
 unfold zct
 have e : zbx c ⟨ser, tm, val⟩ = ⟨-1, ser, tm / c.width (-1)⟩ := rfl
 rw [e]
 cases h : getL L ⟨-1, ser, tm / c.width (-1)⟩ with
 | none => rw [h] at hg; simp at hg
 | some v =>
  have e2 : stL L ⟨-1, ser, tm / c.width (-1)⟩ = v := by unfold stL; rw [h]; rfl
  rw [e2, join_two val hv v.cl (hsm _ (getL_mem h) rfl)]; rfl
theorem reads_kept {N : Nat} {A B : World} {q s : Nat} {c : Cf} {tv : Value} {lb gb : Nat} {ser tm : Int} (h : Reads A q s c tv lb gb ser tm) (hk : zan (fun k => k = lb \/ N <= k) A B) (hq : lb < q) (hqn : q + 2 < N) (hf : ∀ k, sfoot s tv lb gb k -> k < N) (hn : ¬ s = lb /\ ∀ k, tv.ownBlock = some k -> ¬ k = lb) : Reads B q s c tv lb gb ser tm := by
 have hs := hf s (.inl rfl)
 refine ⟨hk.heap h.b0 (by omega), hk.heap h.b1 (by omega), hk.heap h.b2 (by omega), h.hd.kept hk (fun e => ?_) (fun k hkk e => ?_)⟩
 ·rcases e with e | e
  ·exact hn.1 e
  ·omega
 ·have := hf k (.inr (.inl hkk))
  rcases e with e | e
  ·exact hn.2 k hkk e
  ·omega
theorem add_close {w W X X2 : World} {s lb gb N : Nat} {c : Cf} {tv : Value} {Gl : List (Sg × Unit)} {L1 : LV} {pre : List WSg} {x : WSg} {L2 : LV} {cs : Array Value} {t : TypeId} (hN : lb < w.heap.size /\ w.heap.size <= N) (hsn : zfe Gl L1 (pre ++ [x]) = L2) (i1 : W.heap[w.heap.size]? = some (.cells cs t (0, 0))) (i3 : zan (fun k => k = lb) w W) (hb : Below W.heap.size W X) (hset : zda X2 s c tv lb gb Gl L2) (hkp : zan (fun k => k = lb) X X2) :
  KeepsFrom N W X2 /\ zan (fun k => k = lb \/ N <= k) W X2 /\ (X2.heap[w.heap.size]? = some (.cells cs t (0, 0)) /\ zda X2 s c tv lb gb Gl (zfe Gl L1 (pre ++ [x])) /\ zan (fun k => k = lb) w X2) := by
 have hx1 := (hb.block _ (zaa i1)).trans i1
 refine ⟨⟨Nat.le_trans hb.size hkp.size, fun k o hk ho hc => ?_⟩, (zan.of_below hb).trans hkp (fun _ _ h => .inl h), hkp.heap hx1 (by omega), by rw [hsn]; exact hset, (zcm i3 hb).trans hkp (fun _ _ h => h)⟩
 exact hkp.heap ((hb.block k (zaa ho)).trans ho) (by omega)
set_option maxRecDepth 100000 in
set_option maxHeartbeats 8000000 in
theorem padd_any {w : World} {s : Nat} {c : Cf} {tv : Value} {lb gb : Nat} {Gl : List (Sg × Unit)} {L : LV} (h : zda w s c tv lb gb Gl L) (hc : c.ok) (ser tm val : Int) (hser : 0 <= ser /\ ser < 4) (htm : 0 <= tm /\ tm <= 100000) (hval : -2147483648 <= val /\ val <= 2147483647) (hst : stOk L) (hroom : L.length <= 1000000) (hsm : ∀ p ∈ L, p.1.t = -1 -> p.2.cl.small) (hng : ∀ k : Nat, k < c.n -> zbm Gl (zdm c ser tm k) = none) :
  Calls Tryz.prog 116 #[.pointer (some ⟨s, 0, none⟩), int i64 ser, int i64 tm, .int .i32 val] w fun e w' => e = .returned (.tuple #[]) /\ zda w' s c tv lb gb Gl (addL c L ⟨ser, tm, val⟩) /\ zan (fun k => k = lb) w w' := by
 have hn1 := hc.n1
 have hwk : (⟨-1, ser, tm / c.width (-1)⟩ : Sg).wf := by
  obtain ⟨hw1, hw2⟩ := hc.width (t := -1) (by omega) (by omega)
  have hd : 0 <= tm / c.width (-1) := Int.ediv_nonneg htm.1 (by omega)
  have hd2 : tm / c.width (-1) <= tm := Int.ediv_le_self _ htm.1
  refine ⟨?_, ?_, ?_⟩ <;> unfold i64B <;> simp only <;> omega
 obtain ⟨win, hwin⟩ : ∃ win, tm / c.width (-1) = win := ⟨_, rfl⟩
 have hsl := h.lt
 have hb0 : Below w.heap.size w (w.alloc (.cells #[.pointer (some ⟨s, 0, none⟩)] 81)) := (Below.refl _ _).alloc (Nat.le_refl _) _
 have hl0 := zap w (.cells #[.pointer (some ⟨s, 0, none⟩)] 81)
 have hz0 := zbd w (.cells #[.pointer (some ⟨s, 0, none⟩)] 81)
 have HKY := zab (pkey_any (h.hd.later hb0) hc (-1) ser tm (by omega) (by omega) htm)
 rw [hwin] at HKY hwk
 have H := zab h
 have HB0 := zab hb0
 have HL0 := zab hl0
 have HZ0 := zab hz0
 have HWIN := zab hwin
 have HWK := zab hwk
 obtain ⟨hv1, hv2⟩ := hval
 obtain ⟨sv, hsv⟩ : ∃ sv, stL L ⟨-1, ser, win⟩ = sv := ⟨_, rfl⟩
 obtain ⟨ok, hok⟩ : ∃ ok, (getL L ⟨-1, ser, win⟩).isSome = ok := ⟨_, rfl⟩
 have HSV := zab hsv
 have HOK := zab hok
 clear h hb0 hl0 hz0 hwin hwk hsv hok
 refine (callsIn_wide (n := 7)).1 ?_
 refine callsIn_of_wp_marks Tryz.func116 rfl trivial ?_ rfl
 simp only [Tryz.ntmps116, List.size_toArray, List.length_cons, List.length_nil, Nat.reduceAdd, Nat.reduceSub, Array.replicate_succ, Array.replicate_zero, List.push_toArray, List.append_toArray, List.nil_append, List.cons_append]
 refine wpIn_wide.2 ?_
 go_wp2_with fail
 refine (ud HKY).mono ?_
 rintro e w1 ⟨rfl, hb1⟩
 have HB1 := zab ((ud HB0).trans (hb1.mono (ud HB0).size))
 have hl1 := (hb1.block w.heap.size (by rw [ud HZ0]; omega)).trans (ud HL0)
 have hz1 : w.heap.size < w1.heap.size := by have := hb1.size; rw [ud HZ0] at this; omega
 clear hb1
 go_wp2_with fail
 obtain ⟨y0, y1, hbw, yz⟩ := box2 w1 (.cells #[int i64 (-1), int i64 ser, int i64 win] 137) (.cells #[int i64 1, int i64 val, .int .i32 val, .int .i32 val] 114)
 generalize ((w1.alloc (.cells #[int i64 (-1), int i64 ser, int i64 win] 137)).alloc (.cells #[int i64 1, int i64 val, .int .i32 val, .int .i32 val] 114)) = X at *
 have hwX : Below w.heap.size w X := (ud HB1).trans (hbw.mono (ud HB1).size)
 have hlX := (hbw.block w.heap.size hz1).trans hl1
 obtain ⟨-, -, -, -, -, -, -, x7, -⟩ := ((ud H).later hwX).cells
 have x0 : X.cell? ⟨w.heap.size, 0, none⟩ = some (.pointer (some ⟨s, 0, none⟩)) := by rw [zac hlX]; rfl
 have k0 : X.cell? ⟨w1.heap.size, 0, none⟩ = some (int i64 (-1)) := by rw [zac y0]; rfl
 have k1 : X.cell? ⟨w1.heap.size, 1, none⟩ = some (int i64 ser) := by rw [zac y0]; rfl
 have k2 : X.cell? ⟨w1.heap.size, 2, none⟩ = some (int i64 win) := by rw [zac y0]; rfl
 have hsX : s < X.heap.size := Nat.lt_of_lt_of_le hsl hwX.size
 have hqX : w.heap.size < X.heap.size := by omega
 have hkX : w1.heap.size < X.heap.size := by omega
 have hrX : w1.heap.size + 1 < X.heap.size := by omega
 have g0 := lookTV (X := X) (ud H).live hwX (ud HWK)
 have g1 := lookTV (X := X.drew) (ud H).live hwX.drew (ud HWK)
 have g2 := fun o => lookTV (X := X.alloc o) (ud H).live (hwX.alloc hwX.size o) (ud HWK)
 have g3 := fun o => lookTV (X := (X.alloc o).drew) (ud H).live (hwX.alloc hwX.size o).drew (ud HWK)
 have g4 := fun o => lookTV (X := X.drew.alloc o) (ud H).live (hwX.drew.alloc hwX.drew.size o) (ud HWK)
 rw [ud HSV, ud HOK] at g0 g1
 simp only [ud HSV, ud HOK] at g2 g3 g4
 have HWX := zab hwX
 have HLX := zab hlX
 have Y0 := zab y0
 have Y1 := zab y1
 have YZ := zab yz
 clear hwX hlX y0 y1 yz hbw hl1
 go_region
 have hbY : Below X.heap.size X ((X.alloc (.cells #[int i64 sv.st, int i64 sv.cl.cnt, int i64 sv.cl.sum, .int .i32 sv.cl.mn, .int .i32 sv.cl.mx] 131)).drew) := ((Below.refl _ _).alloc (Nat.le_refl _) _).drew
 have hlY : ((X.alloc (.cells #[int i64 sv.st, int i64 sv.cl.cnt, int i64 sv.cl.sum, .int .i32 sv.cl.mn, .int .i32 sv.cl.mx] 131)).drew).heap[X.heap.size]? = some (.cells #[int i64 sv.st, int i64 sv.cl.cnt, int i64 sv.cl.sum, .int .i32 sv.cl.mn, .int .i32 sv.cl.mx] 131 (0, 0)) := zap _ _
 have hzY : ((X.alloc (.cells #[int i64 sv.st, int i64 sv.cl.cnt, int i64 sv.cl.sum, .int .i32 sv.cl.mn, .int .i32 sv.cl.mx] 131)).drew).heap.size = X.heap.size + 1 := zbd _ _
 generalize ((X.alloc (.cells #[int i64 sv.st, int i64 sv.cl.cnt, int i64 sv.cl.sum, .int .i32 sv.cl.mn, .int .i32 sv.cl.mx] 131)).drew) = Y at *
 have HBY := zab hbY
 have HLY := zab hlY
 have HZY := zab hzY
 clear g0 g1 g2 g3 g4 x0 x7 k0 k1 k2 hbY hlY hzY
 have hroom2 : L.length < maxLen := by simp only [maxLen]; omega
 have hlbw := (ud H).live.lt
 have hne0 : ¬ w.heap.size = lb := by omega
 have hne2 : ¬ w1.heap.size = lb := by omega
 have hne1 : ¬ s = lb := fun e => by
  obtain ⟨es, cl, hb, _⟩ := (ud H).live
  have hh := (ud H).head
  rw [e, hb] at hh; cases hh
 have HCO := fun W => zab (cellsOf_any s ser tm W)
 have HFOOT : Hid (∀ k, sfoot s tv lb gb k -> k < w.heap.size) := fun k hk => by
  rcases hk with rfl | hk | rfl | rfl
  ·exact hsl
  ·exact own_lt (ud H).trow k hk
  ·exact hlbw
  ·exact (ud H).gone.lt
 have HNE : Hid (¬ s = lb /\ ∀ k, tv.ownBlock = some k -> ¬ k = lb) := ⟨hne1, fun k hk e => by
  obtain ⟨cur, hcur⟩ := zbp (ud H).trow hk
  obtain ⟨es, cl, hb, _⟩ := (ud H).live
  rw [e, hb] at hcur; cases hcur⟩
 rename_i Q1 K1 aK1 K2 aK2
 have tail : ∀ (v9 v10 v11 v23 v29 v30 v31 v32 v33 v34 v35 v36 v37 : Value) (nc : Cl) (Z : World), (∀ Z', Below Z.heap.size Z Z' -> Hid (Calls Tryz.prog 141 #[v9] Z' fun e w' => e = .returned (.agg #[int i64 nc.cnt, int i64 nc.sum, .int .i32 nc.mn, .int .i32 nc.mx]) /\ Below Z'.heap.size Z' w')) -> Hid (putL L ⟨-1, ser, win⟩ ⟨1, nc⟩ = zct c L ⟨ser, tm, val⟩) -> Hid (Below w.heap.size w Z) -> Hid (Z.heap[w.heap.size]? = some (.cells #[.pointer (some ⟨s, 0, none⟩)] 81 (0, 0))) -> Hid (Z.heap[w1.heap.size]? = some (.cells #[int i64 (-1), int i64 ser, int i64 win] 137 (0, 0))) -> K1 { tmps := #[.pointer (some ⟨s, 0, none⟩), int i64 ser, int i64 tm, .int .i32 val, .pointer (some ⟨w.heap.size, 0, none⟩), undef, undef, undef, .pointer (some ⟨w1.heap.size, 0, none⟩), v9, v10, v11, undef, .pointer (some ⟨s, 0, none⟩), int i64 ser, int i64 tm, .agg #[int i64 (-1), int i64 ser, int i64 win], .int .i32 val, int i64 val, .int .i32 val, .int .i32 val, .agg #[int i64 1, int i64 val, .int .i32 val, .int .i32 val], .slice (some ⟨w1.heap.size + 1, 0, none⟩) 1 1, v23, .pointer (some ⟨s, 0, none⟩), .pointer (some ⟨s, 0, none⟩), .pointer (some ⟨s, 7, none⟩), .map (some lb), .agg #[int i64 (-1), int i64 ser, int i64 win], v29, v30, v31, v32, v33, v34, v35, v36, v37, undef, undef, undef, undef, undef, undef, undef, undef, undef, undef, undef, undef, undef, undef, undef, undef, undef, undef, undef, undef, undef, undef], defers := [] } Z := by
  intro v9 v10 v11 v23 v29 v30 v31 v32 v33 v34 v35 v36 v37 nc Z HJ HADD HWZ HLQ HLK
  refine aK1 _ _ ?_
  clear aK2 aK1
  go_wp2_with fail
  have HSZ := zab ((ud H).later (ud HWZ))
  obtain ⟨-, -, -, -, -, -, -, z7, -⟩ := (ud HSZ).cells
  have z0 : Z.cell? ⟨w.heap.size, 0, none⟩ = some (.pointer (some ⟨s, 0, none⟩)) := by rw [zac (ud HLQ)]; rfl
  have kz0 : Z.cell? ⟨w1.heap.size, 0, none⟩ = some (int i64 (-1)) := by rw [zac (ud HLK)]; rfl
  have kz1 : Z.cell? ⟨w1.heap.size, 1, none⟩ = some (int i64 ser) := by rw [zac (ud HLK)]; rfl
  have kz2 : Z.cell? ⟨w1.heap.size, 2, none⟩ = some (int i64 win) := by rw [zac (ud HLK)]; rfl
  have hsZ : s < Z.heap.size := (ud HSZ).lt
  have hqZ : w.heap.size < Z.heap.size := zaa (ud HLQ)
  have hkZ : w1.heap.size < Z.heap.size := zaa (ud HLK)
  have HJZ := HJ Z (Below.refl _ _)
  have HJD := HJ Z.drew (Below.refl _ _).drew
  clear HJ
  go_region_held3 (fun w' => w'.cell? ⟨w.heap.size, 0, none⟩ = some (.pointer (some ⟨s, 0, none⟩)) /\ w'.cell? ⟨s, 7, none⟩ = some (.map (some lb)) /\ w'.cell? ⟨w1.heap.size, 0, none⟩ = some (int i64 (-1)) /\ w'.cell? ⟨w1.heap.size, 1, none⟩ = some (int i64 ser) /\ w'.cell? ⟨w1.heap.size, 2, none⟩ = some (int i64 win)) (go_keep) (first
   | (go_at_call 141; (first | refine (ud HJZ).mono ?_ | refine (ud HJD).mono ?_); rintro e J ⟨rfl, hbJ0⟩; have hbJ : Below Z.heap.size Z J := ⟨hbJ0.os, hbJ0.tape, hbJ0.output, hbJ0.size, hbJ0.block⟩; clear hbJ0; have j0 := (hbJ.cell (p := ⟨w.heap.size, 0, none⟩) hqZ).trans z0; have j7 := (hbJ.cell (p := ⟨s, 7, none⟩) hsZ).trans z7; have jk0 := (hbJ.cell (p := ⟨w1.heap.size, 0, none⟩) hkZ).trans kz0; have jk1 := (hbJ.cell (p := ⟨w1.heap.size, 1, none⟩) hkZ).trans kz1; have jk2 := (hbJ.cell (p := ⟨w1.heap.size, 2, none⟩) hkZ).trans kz2; obtain ⟨o, hrun, hset, hkp, hoc⟩ := run_store2 ((ud HSZ).later hbJ) hroom2 (ud HWK) ⟨1, nc⟩; dsimp only at hrun; have hzJ := hbJ.size; obtain ⟨U, hU⟩ : ∃ U, setBlock J lb o = U := ⟨_, rfl⟩; rw [hU] at hrun hset hkp; have u0 := (zbv (i := 0) hkp hne0 (Nat.lt_of_lt_of_le hqZ hzJ)).trans j0; have u7 := (zbv (i := 7) hkp hne1 (Nat.lt_of_lt_of_le hsZ hzJ)).trans j7; have uk0 := (zbv (i := 0) hkp hne2 (Nat.lt_of_lt_of_le hkZ hzJ)).trans jk0; have uk1 := (zbv (i := 1) hkp hne2 (Nat.lt_of_lt_of_le hkZ hzJ)).trans jk1; have uk2 := (zbv (i := 2) hkp hne2 (Nat.lt_of_lt_of_le hkZ hzJ)).trans jk2; have HSET := zab hset; have HUQ := zab ((hkp.block w.heap.size (Nat.lt_of_lt_of_le hqZ hzJ) hne0).trans ((hbJ.block w.heap.size hqZ).trans (ud HLQ))); have hzJU := Nat.lt_of_lt_of_le (Nat.lt_of_lt_of_le hqZ hzJ) hkp.size; have HKU := zab ((zan.of_below (f := fun k => k = lb) ((ud HWZ).trans (hbJ.mono (ud HWZ).size))).trans hkp (fun _ _ h => h)); clear hset hkp hbJ hU hoc))
  go_wp2_with fail
  refine (ud (HCO U)).mono ?_
  rintro e w2 ⟨rfl, rfl⟩
  go_wp2_with fail
  rw [ud HADD] at HSET
  obtain ⟨hRd, hbU, hzU⟩ := cells_reads (ud HSET).hd ser tm
  have hUw := (ud HKU).size
  have hlU := (hbU.block w.heap.size (by have := zaa (ud HLQ); have := hzJU; omega)).trans (ud HUQ)
  have hset0 := (ud HSET).later hbU
  have hkp0 := (ud HKU).trans (zan.of_below (f := fun k => k = lb) hbU) (fun _ _ h => h)
  obtain ⟨W0, hW0⟩ : ∃ W0, cellsW U s ser tm = W0 := ⟨_, rfl⟩
  rw [hW0] at hRd hbU hzU hlU hset0 hkp0 ⊢
  have hwz0 := hkp0.size
  have hUz := hbU.size
  have HIO : Hid (OwnFrom W0.heap.size (fun (pre : List WSg) (W : World) => W.heap[w.heap.size]? = some (.cells #[.pointer (some ⟨s, 0, none⟩)] 81 (0, 0)) /\ zda W s c tv lb gb Gl (zfe Gl (zct c L ⟨ser, tm, val⟩) pre) /\ zan (fun k => k = lb) w W)) := fun s' A B row hs hg hr => by
   have hkAB : zan (fun k => W0.heap.size <= k) A B := ⟨hg.os, hg.tape, hg.output, hg.size, fun k hk hn => hg.block k hk (fun e => hn (hr k e.symm).1)⟩
   exact ⟨zbc hs.1 hg (fun r e => (hr r e).2), hs.2.1.kept hkAB (fun k hk => by have := ud HFOOT k hk; omega), hs.2.2.trans hkAB (fun i hi h => by omega)⟩
  refine (wpIn_wide (n := 7)).1 ?_
  refine wpIn_rangeFunc_ownH (F := Fence.wide) (n := 7) rfl (by omega) (gf := 204) (lb := #[.pointer (some ⟨U.heap.size, 0, none⟩), .pointer (some ⟨U.heap.size + 1, 0, none⟩), .pointer (some ⟨U.heap.size + 2, 0, none⟩)]) rfl trivial cells_enters
   (cells_stops 6 (by omega) U.heap.size s c hc tv lb gb ser tm hser htm (fun A B => zan (fun k => k = lb \/ W0.heap.size <= k) A B) (fun A B hAB hRA => reads_kept hRA hAB (by omega) (by omega) (fun k hk => by have := ud HFOOT k hk; omega) (ud HNE)) W0 hRd)
   (fun h k => h.trans k (fun _ _ h => h)) (fun W l o o' hl h _ _ => (zan.refl _ _).grown (grownBy_putObj' W l o') (fun k e _ => by cases e; exact .inr hl)) (Below.refl _ _) (fun _ => rfl)
   (fun (pre : List WSg) W => W.heap[w.heap.size]? = some (.cells #[.pointer (some ⟨s, 0, none⟩)] 81 (0, 0)) /\ zda W s c tv lb gb Gl (zfe Gl (zct c L ⟨ser, tm, val⟩) pre) /\ zan (fun k => k = lb) w W)
   (fun _ _ _ => False) (ud HIO) (fun _ _ _ _ _ hs _ _ => hs)
   ⟨hlU, hset0, hkp0⟩
   (fun x a' W => ∃ Bx, W.heap[Bx]? = some (.cells #[int i64 x.1.t, int i64 x.1.ser, int i64 x.1.win] 137 (0, 0)) /\ a' = { tmps := #[.pointer (some ⟨s, 0, none⟩), int i64 ser, int i64 tm, .int .i32 val, .pointer (some ⟨w.heap.size, 0, none⟩), undef, undef, undef, .pointer (some ⟨w1.heap.size, 0, none⟩), v9, v10, v11, .pointer (some ⟨Bx, 0, none⟩), .pointer (some ⟨s, 0, none⟩), int i64 ser, int i64 tm, .agg #[int i64 (-1), int i64 ser, int i64 win], .int .i32 val, int i64 val, .int .i32 val, .int .i32 val, .agg #[int i64 1, int i64 val, .int .i32 val, .int .i32 val], .slice (some ⟨w1.heap.size + 1, 0, none⟩) 1 1, v23, .pointer (some ⟨s, 0, none⟩), .pointer (some ⟨s, 0, none⟩), .pointer (some ⟨s, 7, none⟩), .map (some lb), .agg #[int i64 (-1), int i64 ser, int i64 win], v29, v30, v31, v32, v33, v34, v35, v36, v37, .pointer (some ⟨s, 0, none⟩), .pointer (some ⟨s, 0, none⟩), .pointer (some ⟨s, 7, none⟩), .map (some lb), .agg #[int i64 (-1), int i64 ser, int i64 win], v9, .agg #[int i64 nc.cnt, int i64 nc.sum, .int .i32 nc.mn, .int .i32 nc.mx], .agg #[int i64 1, int i64 nc.cnt, int i64 nc.sum, .int .i32 nc.mn, .int .i32 nc.mx], .pointer (some ⟨s, 0, none⟩), int i64 ser, int i64 tm, .func (.func 204) #[] #[.pointer (some ⟨U.heap.size, 0, none⟩), .pointer (some ⟨U.heap.size + 1, 0, none⟩), .pointer (some ⟨U.heap.size + 2, 0, none⟩)], .agg #[int i64 x.1.t, int i64 x.1.ser, int i64 x.1.win], undef, undef, undef, undef, undef, undef, undef, undef, undef], defers := [] })
   (fun x a' s' A B row hs hg hr => by
    obtain ⟨Bx, h2, h3⟩ := hs
    exact ⟨Bx, zbc h2 hg (fun r e => (hr r e).2), h3⟩) ?assign ?body ?done ?stop
  case assign =>
   rintro l pre x W K ⟨i1, i2, i3⟩ hK
   have HK := zab hK
   have I1 := zab i1
   have I2 := zab i2
   have I3 := zab i3
   clear hK i1 i2 i3
   gi_wp2
   exact ud HK _ _ ((KeepsOthers.alloc _ _).from _) ((zan.refl _ _).alloc _) ⟨(Below.heap_alloc _ _ _ (zaa (ud I1))).trans (ud I1), (ud I2).later ((Below.refl _ _).alloc (Nat.le_refl _) _), (ud I3).alloc _⟩ ⟨W.heap.size, zap _ _, rfl⟩
  case body =>
   rintro l pre x a' W hl ⟨r, hr⟩ ⟨i1, i2, i3⟩ ⟨Bx, hx, rfl⟩ hlt2
   rename_i hhl
   clear hhl hrun HKY HB0 HL0 HZ0 HWIN HWK hv1 hv2 HSV HOK HB1 hz1 hsX hqX hkX hrX HWX HLX Y0 Y1 YZ HBY HLY HZY hroom2 hne0 hne2 hne1 HCO HFOOT HNE HADD HWZ HLQ HLK HSZ z7 z0 kz0 kz1 kz2 hsZ hqZ hkZ HJZ HJD j0 j7 jk0 jk1 jk2 hzJ u0 u7 uk0 uk1 uk2 HSET HUQ hzJU HKU hUw hkp0 hset0 hlU hzU hbU hRd hUz HIO hst hsm hng hl hr
   have hBz := zaa hx
   have hqz := zaa i1
   have hsz := i2.lt
   have hlen : (zfe Gl (zct c L ⟨ser, tm, val⟩) pre).length < maxLen := by
    have h1 := addPreG_len Gl (zct c L ⟨ser, tm, val⟩) pre
    have h2 : (zct c L ⟨ser, tm, val⟩).length <= L.length + 1 := putL_len _ _ _
    have h3 := hc.n4
    simp only [maxLen]; omega
   have hsn := addPreG_snoc Gl (zct c L ⟨ser, tm, val⟩) pre x
   generalize zfe Gl (zct c L ⟨ser, tm, val⟩) pre = Lp at *
   have c4 : W.cell? ⟨w.heap.size, 0, none⟩ = some (.pointer (some ⟨s, 0, none⟩)) := by rw [zac i1]; rfl
   obtain ⟨-, -, -, -, -, -, -, m7, -⟩ := i2.cells
   have x0 : W.cell? ⟨Bx, 0, none⟩ = some (int i64 x.1.t) := by rw [zac hx]; rfl
   have x1 : W.cell? ⟨Bx, 1, none⟩ = some (int i64 x.1.ser) := by rw [zac hx]; rfl
   have x2 : W.cell? ⟨Bx, 2, none⟩ = some (int i64 x.1.win) := by rw [zac hx]; rfl
   have HM := zab (pmissing_any i2 x.1 x.2)
   have I1 := zab i1
   have I2 := zab i2
   have I3 := zab i3
   have hmx : Tryz.prog.follows .mixedOrders = true := by kernel_rfl
   have HLEN := zab hlen
   clear i1 i2 i3 hx hlen
   by_cases hm : (stG Gl Lp x.1).st = 0
   ·have hb : ((stG Gl Lp x.1).st == 0) = true := by simp [hm]
    rw [hb] at HM
    have HSN := zab (hsn.trans (show stepG Gl Lp x = putL Lp x.1 ⟨2, zds⟩ by simp [stepG, hm]))
    clear hsn hb hm
    gi_wp2_with (first | (refine ⟨trivial, ?_⟩; gi_at_call 167; refine (CallsIn.inRound l (callsIn_wide.2 (ud HM))).mono ?_; rintro e w' ⟨rfl, hb'⟩; have d4 := (hb'.cell (p := ⟨w.heap.size, 0, none⟩) hqz).trans c4; have d7 := (hb'.cell (p := ⟨s, 7, none⟩) hsz).trans m7; have y0 := (hb'.cell (p := ⟨Bx, 0, none⟩) hBz).trans x0; have y1 := (hb'.cell (p := ⟨Bx, 1, none⟩) hBz).trans x1; have y2 := (hb'.cell (p := ⟨Bx, 2, none⟩) hBz).trans x2; obtain ⟨o, hrun, hset, hkp, hoc⟩ := run_store2 ((ud I2).later hb') (ud HLEN) x.2 ⟨2, zds⟩; obtain ⟨o2, hrun2, hset2, hkp2, hoc2⟩ := run_store2 ((ud I2).later hb'.drew) (ud HLEN) x.2 ⟨2, zds⟩; dsimp only [zds] at hrun hrun2; have HT := zab hset; have HT2 := zab hset2; have HP := zab hkp; have HP2 := zab hkp2; have HB' := zab hb'; clear hset hset2 hkp hkp2 hoc hoc2 hb') | gi_in)
    clear HM I2 HLEN c4 m7 x0 x1 x2 hBz hqz hsz hlt2
    gi_region_o
    all_goals gi_wp2
    all_goals (try go_bits)
    all_goals first | exact add_close ⟨hlbw, hwz0⟩ (ud HSN) (ud I1) (ud I3) (ud HB') (ud HT) (ud HP) | exact add_close ⟨hlbw, hwz0⟩ (ud HSN) (ud I1) (ud I3) (ud HB').drew (ud HT2) (ud HP2)
   ·have hb : ((stG Gl Lp x.1).st == 0) = false := by simp [hm]
    rw [hb] at HM
    have HSN := zab (hsn.trans (show stepG Gl Lp x = Lp by simp [stepG, hm]))
    clear hsn hb hm
    gi_wp2_with (first | (refine ⟨trivial, ?_⟩; gi_at_call 167; refine (CallsIn.inRound l (callsIn_wide.2 (ud HM))).mono ?_; rintro e w' ⟨rfl, hb'⟩; have HB' := zab hb'; clear hb') | gi_in)
    refine ⟨(zep (ud HB')).from _, zan.of_below (ud HB'), ((ud HB').block _ hqz).trans (ud I1), ?_, zcm (ud I3) (ud HB')⟩
    rw [ud HSN]; exact (ud I2).later (ud HB')
  case done =>
   rintro D xs W hD hS hi hK
   subst hS
   have HI := zab hi
   have HK := zab hK
   clear hi hK
   gi_wp2
   have hi2 := (ud HIO).putObj (.deferred none) (ud HI) hD (ud HK) rfl
   refine ⟨by simp, .inl ⟨_, _, rfl, run_takeDeferred (ud HK), ?_⟩⟩
   refine ⟨_, results_none rfl _ _ _, rfl, ?_, hi2.2.2⟩
   have e1 := addPre_tiers hc (val := val) hser htm (stOk_put (s := zbx c ⟨ser, tm, val⟩) (v := ⟨1, zdy val ((getL L (zbx c ⟨ser, tm, val⟩)).map (·.cl))⟩) hst (by simp)) c.n (Nat.le_refl _)
   have e2 : addPre (zct c L ⟨ser, tm, val⟩) ((zec c ser tm c.n).map wSeg) = addL c L ⟨ser, tm, val⟩ := e1
   rw [<- addPreG_eq Gl _ _ (fun x hx => by obtain ⟨y, hy, rfl⟩ := List.mem_map.1 hx; obtain ⟨k, hk, rfl⟩ := List.mem_map.1 hy; have hk' : k < c.n := (by simpa using hk); rw [wSeg_val (tierSeg_wf hc hser htm hk')]; exact hng k hk')] at e2
   rw [<- e2]; exact hi2.2.1
  case stop =>
   rintro D c pre W _ _ h _
   exact h.elim
 clear aK1
 cases ok with
 | false =>
  obtain ⟨nc, hnc⟩ : ∃ nc, zdn [newCl val] = nc := ⟨_, rfl⟩
  have HADD := zab (raw_new (ud HWIN) ⟨hv1, hv2⟩ (ud HOK))
  rw [hnc] at HADD
  have hY1 := ((ud HBY).block (w1.heap.size + 1) hrX).trans (ud Y1)
  have hCA : CAt Y (w1.heap.size + 1) [newCl val] := CAt.of_owns (base := 0) (cap := 1) (e := 114) (owns_new (xs := clCells (newCl val)) hY1 rfl (by simp) (by simp [maxLen]) (Nat.zero_le _))
  have hrY : w1.heap.size + 1 < Y.heap.size := Nat.lt_of_lt_of_le hrX (ud HBY).size
  have HJ : ∀ Z', Below Y.heap.size Y Z' -> Hid (Calls Tryz.prog 141 #[.slice (some ⟨w1.heap.size + 1, 0, none⟩) 1 1] Z' fun e w' => e = .returned (.agg #[int i64 nc.cnt, int i64 nc.sum, .int .i32 nc.mn, .int .i32 nc.mx]) /\ Below Z'.heap.size Z' w') := fun Z' hZ' => by
   have := join_any (some ⟨w1.heap.size + 1, 0, none⟩) (w1.heap.size + 1) 1 [newCl val] (fun _ => rfl) (by simp) Z' (Nat.lt_of_lt_of_le hrY hZ'.size) (hCA.below hZ' hrY)
   rw [hnc] at this; exact this
  have HWZ := zab ((ud HWX).trans ((ud HBY).mono (ud HWX).size))
  have HLQ := zab (((ud HBY).block _ hqX).trans (ud HLX))
  have HLK := zab (((ud HBY).block _ hkX).trans (ud Y0))
  clear hY1 hCA hnc
  go_wp2_with fail
  exact tail _ _ _ _ _ _ _ _ _ _ _ _ _ nc Y HJ HADD HWZ HLQ HLK
 | true =>
  have o1 : Y.cell? ⟨X.heap.size, 1, none⟩ = some (int i64 sv.cl.cnt) := by rw [zac (ud HLY)]; rfl
  have o2 : Y.cell? ⟨X.heap.size, 2, none⟩ = some (int i64 sv.cl.sum) := by rw [zac (ud HLY)]; rfl
  have o3 : Y.cell? ⟨X.heap.size, 3, none⟩ = some (.int .i32 sv.cl.mn) := by rw [zac (ud HLY)]; rfl
  have o4 : Y.cell? ⟨X.heap.size, 4, none⟩ = some (.int .i32 sv.cl.mx) := by rw [zac (ud HLY)]; rfl
  have hY1 := ((ud HBY).block (w1.heap.size + 1) hrX).trans (ud Y1)
  have HOW := zab (owns_new (base := w.heap.size) (xs := [newCl val].flatMap clCells) (n := 1) (size := 4) hY1 rfl (by decide) (by simp [maxLen]) (by omega))
  have hXY : X.heap.size < Y.heap.size := by rw [ud HZY]; omega
  have hbz : w.heap.size <= Y.heap.size := by omega
  clear hY1
  go_wp2_with (first | (at_builtin; refine push_cl rfl _ _ rfl w.heap.size (.slice (some ⟨w1.heap.size + 1, 0, none⟩) 1 1) [newCl val] sv.cl rfl ((ud HOW).alloc _) Y.heap.size rfl (zap _ _) ?hll ?hbb ?_; (case hll => simp); (case hbb => (rw [zbd]; omega)); intro g cap Z hown hgrow hlt; have HG := zab hgrow; have HO := zab hown; clear hgrow hown) | go_in)
  obtain ⟨nc, hnc⟩ : ∃ nc, zdn [newCl val, sv.cl] = nc := ⟨_, rfl⟩
  have HADD := zab (raw_old (ud HWIN) ⟨hv1, hv2⟩ (ud HOK) (ud HSV) hsm)
  rw [hnc] at HADD
  have hCA : CAt Z g [newCl val, sv.cl] := CAt.of_owns (base := w.heap.size) (cap := cap) (e := 114) (ud HO)
  have HJ : ∀ Z', Below Z.heap.size Z Z' -> Hid (Calls Tryz.prog 141 #[.slice (some ⟨g, 0, none⟩) 2 cap] Z' fun e w' => e = .returned (.agg #[int i64 nc.cnt, int i64 nc.sum, .int .i32 nc.mn, .int .i32 nc.mx]) /\ Below Z'.heap.size Z' w') := fun Z' hZ' => by
   have := join_any (some ⟨g, 0, none⟩) g cap [newCl val, sv.cl] (fun _ => rfl) (by simp) Z' (Nat.lt_of_lt_of_le hlt hZ'.size) (hCA.below hZ' hlt)
   rw [hnc] at this; exact this
  have hwY := (ud HWX).trans ((ud HBY).mono (ud HWX).size)
  have hgb := (ud HG)
  have hown1 : (Value.slice (some ⟨w1.heap.size + 1, 0, none⟩) 1 1).ownBlock = some (w1.heap.size + 1) := rfl
  rw [hown1] at hgb
  have hwA := hwY.alloc hwY.size (.cells #[int i64 sv.cl.cnt, int i64 sv.cl.sum, .int .i32 sv.cl.mn, .int .i32 sv.cl.mx] 114)
  have HWZ := zab (hwA.grown hgb hwA.size (fun k e => by cases e; omega))
  have hzA := zbd Y (.cells #[int i64 sv.cl.cnt, int i64 sv.cl.sum, .int .i32 sv.cl.mn, .int .i32 sv.cl.mx] 114)
  have hqY := ((ud HBY).block _ hqX).trans (ud HLX)
  have hkY := ((ud HBY).block _ hkX).trans (ud Y0)
  have HLQ := zab ((hgb.block w.heap.size (by omega) (by simp; omega)).trans ((Below.heap_alloc _ _ _ (by omega)).trans hqY))
  have HLK := zab ((hgb.block w1.heap.size (by omega) (by simp)).trans ((Below.heap_alloc _ _ _ (by omega)).trans hkY))
  clear hCA hnc hwY hgb hown1 hwA hzA hqY hkY o1 o2 o3 o4
  exact tail _ _ _ _ _ _ _ _ _ _ _ _ _ nc Z HJ HADD HWZ HLQ HLK
end Go.Proofs.YtpbimdkclnekeaaGreat
