import Derived.Test.YtpbimdkclnekeaaGreatTMlz0
import Derived.Test.YtpbimdkclnekeaaGreatTKit0

namespace Go.Proofs.YtpbimdkclnekeaaGreat
open Value (int)
open IntKind (i64)
open Go.RowKit Go.Maps Go.Shelf
open Go.ChangeMaps (setBlock)
set_option linter.unusedVariables false
attribute [local go_sem] Oper.semAt_some
theorem postR_len (now : Int) (TL : List (Jk × Tsk)) (s : Sg) : (zeg now TL s).length <= TL.length + 1 := by
 unfold zeg; split
 ·omega
 ·rw [length_putM]; split <;> omega
theorem postC_len (now : Int) (TL : List (Jk × Tsk)) (s : Sg) : (zfj now TL s).length <= TL.length + 1 := by
 unfold zfj; split
 ·omega
 ·rw [length_putM]; split <;> omega
theorem postRs_len (now : Int) : ∀ (l : List Sg) (TL : List (Jk × Tsk)), (l.foldl (zeg now) TL).length <= TL.length + l.length
 | [], TL => by simp
 | s :: l, TL => by have h1 := postRs_len now l (zeg now TL s); have h2 := postR_len now TL s; simp only [List.foldl_cons, List.length_cons]; omega
theorem postCs_len (now : Int) : ∀ (l : List Sg) (TL : List (Jk × Tsk)), (l.foldl (zfj now) TL).length <= TL.length + l.length
 | [], TL => by simp
 | s :: l, TL => by have h1 := postCs_len now l (zfj now TL s); have h2 := postC_len now TL s; simp only [List.foldl_cons, List.length_cons]; omega
theorem filt_mem {c : Cf} {L ps : LV} (hL : ∀ p ∈ L, inR c p.1) (hp : ps.Perm L) (f : Sg -> Bool) (s : Sg) : s ∈ (((ps.map (fun p : Sg × SV => rSeg c p.1)).filter (fun x => f x.1)).map (fun x : RSg c => x.1)) ↔ s ∈ zam L /\ f s = true := by
 constructor
 ·intro hs
  obtain ⟨q, hq, rfl⟩ := List.mem_map.1 hs
  obtain ⟨h1, h2⟩ := List.mem_filter.1 hq
  obtain ⟨p, hpm, rfl⟩ := List.mem_map.1 h1
  have hpL := hp.mem_iff.1 hpm
  rw [rSeg_val (hL p hpL)] at h2 ⊢
  exact ⟨List.mem_map.2 ⟨p, hpL, rfl⟩, h2⟩
 ·rintro ⟨h1, h2⟩
  obtain ⟨p, hpL, rfl⟩ := List.mem_map.1 (show s ∈ L.map (·.1) from h1)
  refine List.mem_map.2 ⟨rSeg c p.1, List.mem_filter.2 ⟨List.mem_map.2 ⟨p, hp.mem_iff.2 hpL, rfl⟩, ?_⟩, rSeg_val (hL p hpL)⟩
  rw [rSeg_val (hL p hpL)]; exact h2
set_option maxRecDepth 100000 in
set_option maxHeartbeats 8000000 in
theorem post_any {w : World} {i : Ids} {c : Cf} {ep : Int} {m : MS} (h : zbb w i c ep m) (hc : c.ok) (hL : ∀ p ∈ m.L, inR c p.1) (hlen : m.L.length <= 2000) (hnow : 0 <= m.now /\ m.now <= 100000) (htl : m.TL.length <= 50000) :
  Calls Tryz.prog 44 #[.pointer (some ⟨i.x, 0, none⟩)] w fun e w' => e = .returned (.tuple #[]) /\ ∃ TL', zbb w' i c ep { m with TL := TL' } /\ zan (fun k => k = i.tb) w w' /\ zev c m TL' := by
 have hxl := h.lt
 have hba : Below w.heap.size w (w.alloc (.cells #[.pointer (some ⟨i.x, 0, none⟩)] 38)) := (Below.refl _ _).alloc (Nat.le_refl _) _
 have q0 := zap w (.cells #[.pointer (some ⟨i.x, 0, none⟩)] 38)
 have qz := zbd w (.cells #[.pointer (some ⟨i.x, 0, none⟩)] 38)
 obtain ⟨-, -, -, -, -, -, -, -, c8, c9, c10⟩ := (h.later hba).cells
 have p0 : (w.alloc (.cells #[.pointer (some ⟨i.x, 0, none⟩)] 38)).cell? ⟨w.heap.size, 0, none⟩ = some (.pointer (some ⟨i.x, 0, none⟩)) := by rw [zac q0]; rfl
 have hxX := (h.later hba).lt
 have hpl := zaa q0
 have HRO := fun W hW => zab (rollable_any ((h.later (w' := W) hW).set) hc hL hlen m.now hnow)
 have HRC := fun W hW => zab (reclaimable_any ((h.later (w' := W) hW).set) hc hL m.now hnow)
 have H := zab h
 have Q0 := zab q0
 have QZ := zab qz
 have HBA := zab hba
 clear h q0 qz hba
 refine (callsIn_wide (n := 7)).1 ?_
 refine callsIn_of_wp_marks Tryz.func44 rfl trivial ?_ rfl
 simp only [Tryz.ntmps44, List.size_toArray, List.length_cons, List.length_nil, Nat.reduceAdd, Nat.reduceSub, Array.replicate_succ, Array.replicate_zero, List.push_toArray, List.append_toArray, List.nil_append, List.cons_append]
 refine wpIn_wide.2 ?_
 go_wp2_with fail
 generalize (w.alloc (.cells #[.pointer (some ⟨i.x, 0, none⟩)] 38)) = X at *
 have hbX := ud HBA
 have hqz : X.heap.size = w.heap.size + 1 := ud QZ
 have hwX := hbX.size
 have HR0 := HRO X hbX
 have HR1 := HRO X.drew hbX.drew
 have HFL := zab ((ud H).foot_lt)
 clear HRO hbX hwX hqz
 go_region_held3 (fun w' => w'.cell? ⟨w.heap.size, 0, none⟩ = some (.pointer (some ⟨i.x, 0, none⟩)) /\ w'.cell? ⟨i.x, 8, none⟩ = some (int i64 m.now) /\ w'.cell? ⟨i.x, 9, none⟩ = some (.pointer (some ⟨i.s, 0, none⟩))) (go_keep) (first
  | (go_at_call 94; (first | (with_reducible refine (ud HR0).mono ?_) | (with_reducible refine (ud HR1).mono ?_)); rintro e X1 ⟨Bl, Bh, Bs, rfl, hb10, hBs, hsq⟩; have hb1 : Below X.heap.size X X1 := ⟨hb10.os, hb10.tape, hb10.output, hb10.size, hb10.block⟩; have p1 := (hb1.cell (p := ⟨w.heap.size, 0, none⟩) hpl).trans p0; have d8 := (hb1.cell (p := ⟨i.x, 8, none⟩) hxX).trans c8; have d9 := (hb1.cell (p := ⟨i.x, 9, none⟩) hxX).trans c9; have hpl1 := Nat.lt_of_lt_of_le hpl hb1.size; have hxX1 := Nat.lt_of_lt_of_le hxX hb1.size; have HB1 := zab hb1; have HBS := zab hBs; have HSQ := zab hsq; clear hb10 hb1 hBs hsq HR0 HR1))
 all_goals go_wp2_with fail
 all_goals
  have hz1 := (ud HB1).size
  have hbw1 : Below w.heap.size w X1 := (ud HBA).trans ((ud HB1).mono (ud HBA).size)
  have hM1 := (ud H).later hbw1
  have hQ1 := ((ud HB1).block _ hpl).trans (ud Q0)
  have hwz : w.heap.size < X1.heap.size := hpl1
  have htbl : i.tb < w.heap.size := ud HFL i.tb (.inr (.inr (.inr (.inl rfl))))
  have hfoot1 : ∀ k, zcz i k -> k < X1.heap.size := fun k hk => by have := ud HFL k hk; omega
  have hex : ∀ k, (fun k => k = i.tb) k -> k < w.heap.size + 1 /\ ¬ sfoot i.s i.tv i.lb i.gb k := fun k e => ⟨by omega, fun hs => hM1.parts k hs (.inr (.inl e))⟩
  have HSF := zab (ud HSQ (fun k => k = i.tb) (fun k e => ⟨by have := (hex k e).1; have := ud QZ; show k < X.heap.size; omega, (hex k e).2⟩))
  have HM1 := zab hM1
  have HQ1 := zab hQ1
  have HBW1 := zab hbw1
  have HFO := zab hfoot1
  clear hM1 hQ1 hbw1 hex hfoot1 HSQ p1 d8 d9 p0 c8 c9 c10
  refine (wpIn_wide (n := 7)).1 ?_
  refine range_O (F := Fence.wide) (n := 7) rfl (by omega) (gf := 191) (lb := #[.pointer (some ⟨Bl, 0, none⟩), .pointer (some ⟨Bh, 0, none⟩)]) rfl trivial wen_key (ud HSF (X1.heap.size + 2) (by omega)) (Nat.le_refl _) (fun h k => h.trans k) (fun W o o' h hc hw => KX.putObj o' (by omega) (by omega) h hw) (Below.refl _ _) (fun _ => rfl)
   (fun pre W => zbb W i c ep { m with TL := (pre.map (fun x : RSg c => x.1)).foldl (zeg m.now) m.TL } /\ KX (fun k => k = i.tb) X1.heap.size (X1.heap.size + 2) X1 W)
   (fun _ _ _ => False)
   (fun s A B row hs hg hr => ⟨hs.1.kept (f := fun k => X1.heap.size <= k) ⟨hg.os, hg.tape, hg.output, hg.size, fun k hk hn => hg.block k hk (fun e => hn (hr k e.symm).1)⟩ (fun k hk e => by have := ud HFO k hk; omega), KX.own (β := Unit) (q := X1.heap.size) (Nat.le_refl _) () A B row hs.2 hg hr⟩)
   (fun _ _ _ _ _ hs _ _ => hs)
   ⟨ud HM1, KX.refl _ _ _ _⟩
   (fun x a' W => ∃ Bx, X1.heap.size <= Bx /\ W.heap[Bx]? = some (.cells #[int i64 x.1.t, int i64 x.1.ser, int i64 x.1.win] 137 (0, 0)) /\ a' = { tmps := #[.pointer (some ⟨i.x, 0, none⟩), .pointer (some ⟨w.heap.size, 0, none⟩), .pointer (some ⟨Bx, 0, none⟩), undef, .pointer (some ⟨i.x, 0, none⟩), .pointer (some ⟨i.x, 0, none⟩), .pointer (some ⟨i.x, 9, none⟩), .pointer (some ⟨i.s, 0, none⟩), .pointer (some ⟨i.x, 0, none⟩), .pointer (some ⟨i.x, 0, none⟩), .pointer (some ⟨i.x, 8, none⟩), int i64 m.now, .func (.func 191) #[] #[.pointer (some ⟨Bl, 0, none⟩), .pointer (some ⟨Bh, 0, none⟩)], .agg #[int i64 x.1.t, int i64 x.1.ser, int i64 x.1.win], undef, undef, undef, undef, undef, undef, undef, undef, undef, undef, undef, undef, undef, undef, undef, undef, undef, undef, undef, undef, undef, undef, undef, undef, undef, undef, undef, undef, undef, undef, undef, undef, undef, undef], defers := [] })
   (fun x a' s A B row hs hg hr => by
    obtain ⟨Bx, h1, h2, h3⟩ := hs
    exact ⟨Bx, h1, zbc h2 hg (fun r e => (hr r e).2), h3⟩) ?assign ?body ?done ?stop
  case assign =>
   rintro l pre x W K ⟨i1, i2⟩ hK
   have HK := zab hK
   have hzW := i2.kept.size
   clear hK
   gi_wp2
   have hba := (Below.refl W.heap.size W).alloc (Nat.le_refl _) (.cells #[int i64 x.1.t, int i64 x.1.ser, int i64 x.1.win] 137)
   exact ud HK _ _ (zba hba) (KX.of_below hba) ⟨i1.later hba, i2.trans (KX.of_below hba)⟩ ⟨W.heap.size, hzW, zap _ _, rfl⟩
  case body =>
   rintro l pre x a' W hl ⟨r, hr⟩ ⟨i1, i2⟩ ⟨Bx, hBx, hx, rfl⟩ hlt
   have hzW := i2.kept.size
   have hp1 := zdg i2 (ud HQ1) (by omega) (by omega)
   obtain ⟨-, -, -, -, -, -, -, -, m8, -, m10⟩ := i1.cells
   have mp : W.cell? ⟨w.heap.size, 0, none⟩ = some (.pointer (some ⟨i.x, 0, none⟩)) := by rw [zac hp1]; rfl
   have k0 : W.cell? ⟨Bx, 0, none⟩ = some (int i64 x.1.t) := by rw [zac hx]; rfl
   have k1 : W.cell? ⟨Bx, 1, none⟩ = some (int i64 x.1.ser) := by rw [zac hx]; rfl
   have k2 : W.cell? ⟨Bx, 2, none⟩ = some (int i64 x.1.win) := by rw [zac hx]; rfl
   have hxW := i1.lt
   have hpW := zaa hp1
   have hBz := zaa hx
   dsimp only at m8
   have HI1 := zab i1
   have HI2 := zab i2
   have hxw := x.2.1
   have htl0 : ((pre.map (fun x : RSg c => x.1)).foldl (zeg m.now) m.TL).length <= 100000 := by
    have := postRs_len m.now (pre.map (fun x : RSg c => x.1)) m.TL
    rw [List.length_map] at this; omega
   have HPD := zab (post_Roll ((ud HI1).later (Below.refl _ _).drew).board x.1 hxw m.now htl0)
   have hmx : Tryz.prog.follows .mixedOrders = true := by kernel_rfl
   clear i1 i2 hx hp1 hr htl0 hxw
   gi_wp2
   refine region_tail_in 11 hmx (by kernel_rfl) ?_
   simp only [List.take_succ_cons, List.take_zero, List.drop_succ_cons, List.drop_zero]
   repeat still_step
   refine wpStill_nil ?_
   gi_wp2_with (first | (refine ⟨trivial, ?_⟩; gi_at_call 95; refine (CallsIn.inRound l (callsIn_wide.2 (ud HPD))).mono ?_; rintro e V ⟨rfl, hB, hK⟩; have HB := zab hB; have HKK := zab hK; clear hB hK) | gi_in)
   have hkV : zan (fun k => k = i.tb) W V := (zan.refl (fun k => k = i.tb) W).drew.trans (ud HKK) (fun _ _ e => e)
   have hmV := (ud HI1).putBoard (ud HB) (hkV.mono (fun k _ e => .inr (.inl e)))
   refine ⟨keeps_store hkV (by omega), kx_store hkV (by omega), ?_, (ud HI2).trans (kx_store hkV (by omega))⟩
   rw [List.map_append, List.foldl_append]
   exact hmV
  case done =>
   rintro D xs W hD ⟨ps, hp, hxs⟩ ⟨i1, i2⟩ hKD
   have HXS := zab hxs
   have hT1l : ((xs.map (fun x : RSg c => x.1)).foldl (zeg m.now) m.TL).length <= 52000 := by
    have := postRs_len m.now (xs.map (fun x : RSg c => x.1)) m.TL
    rw [List.length_map, hxs] at this
    have h2 := filter_len (fun x => rollB c Bs m.L m.now x.1) (ps.map (fun p : Sg × SV => rSeg c p.1))
    rw [List.length_map, hp.length_eq] at h2
    rw [hxs]; omega
   have HT1 := zab hT1l
   clear hxs hT1l
   have HI1 := zab i1
   have HI2 := zab i2
   have HKD := zab hKD
   have HPS := zab hp
   clear i1 i2 hKD hp
   gi_wp2
   have i1 := ud HI1
   have i2 := ud HI2
   have hzW := i2.kept.size
   have hp1 := zdg i2 (ud HQ1) (by omega) (by omega)
   obtain ⟨-, -, -, -, -, -, -, -, m8, m9, -⟩ := i1.cells
   dsimp only at m8
   have mp : W.cell? ⟨w.heap.size, 0, none⟩ = some (.pointer (some ⟨i.x, 0, none⟩)) := by rw [zac hp1]; rfl
   have hxW := i1.lt
   have hpW := zaa hp1
   have HC0 := zab (reclaimable_any i1.set hc hL m.now hnow)
   have HC1 := zab (reclaimable_any (i1.later (Below.refl _ _).drew).set hc hL m.now hnow)
   have HPW := zab hp1
   clear i1 i2 hp1
   generalize hT1 : (xs.map (fun x : RSg c => x.1)).foldl (zeg m.now) m.TL = T1 at *
   have HTE := zab hT1
   clear hT1
   go_wp2_with fail
   go_region_held3 (fun w' => w'.cell? ⟨w.heap.size, 0, none⟩ = some (.pointer (some ⟨i.x, 0, none⟩)) /\ w'.cell? ⟨i.x, 8, none⟩ = some (int i64 m.now) /\ w'.cell? ⟨i.x, 9, none⟩ = some (.pointer (some ⟨i.s, 0, none⟩))) (go_keep) (first
    | (go_at_call 96; (first | (with_reducible refine (ud HC0).mono ?_) | (with_reducible refine (ud HC1).mono ?_)); rintro e X2 ⟨Bl2, Bh2, rfl, hb20, hsq2⟩; have hb2 : Below W.heap.size W X2 := ⟨hb20.os, hb20.tape, hb20.output, hb20.size, hb20.block⟩; have p2 := (hb2.cell (p := ⟨w.heap.size, 0, none⟩) hpW).trans mp; have n8 := (hb2.cell (p := ⟨i.x, 8, none⟩) hxW).trans m8; have n9 := (hb2.cell (p := ⟨i.x, 9, none⟩) hxW).trans m9; have hpl2 := Nat.lt_of_lt_of_le hpW hb2.size; have hxX2 := Nat.lt_of_lt_of_le hxW hb2.size; have HB2 := zab hb2; have HSQ2 := zab hsq2; clear hb20 hb2 hsq2 HC0 HC1))
   all_goals go_wp2_with fail
   all_goals
    have hz2 := (ud HB2).size
    have hM2 := (ud HI1).later (ud HB2)
    have hQ2 := ((ud HB2).block _ hpW).trans (ud HPW)
    have hfoot2 : ∀ k, zcz i k -> k < X2.heap.size := fun k hk => by have := ud HFL k hk; omega
    have hex2 : ∀ k, (fun k => k = i.tb) k -> k < W.heap.size /\ ¬ sfoot i.s i.tv i.lb i.gb k := fun k e => ⟨by omega, fun hs => hM2.parts k hs (.inr (.inl e))⟩
    have HSF2 := zab (ud HSQ2 (fun k => k = i.tb) hex2)
    have hDW := zaa (ud HKD)
    have HD2 := zab (((ud HB2).block _ hDW).trans (ud HKD))
    have hDtb : D ≠ i.tb := by omega
    have HM2 := zab hM2
    have HQ2 := zab hQ2
    have HFO2 := zab hfoot2
    clear hM2 hQ2 hex2 hfoot2 HSQ2 p2 n8 n9 mp m8 m9
    refine (wpIn_wide (n := 7)).1 ?_
    refine range_O (F := Fence.wide) (n := 7) rfl (by omega) (gf := 191) (lb := #[.pointer (some ⟨Bl2, 0, none⟩), .pointer (some ⟨Bh2, 0, none⟩)]) rfl trivial wen_key (ud HSF2 (X2.heap.size + 2) (by omega)) (Nat.le_refl _) (fun h k => h.trans k) (fun W o o' h hc hw => KX.putObj o' (by omega) (by omega) h hw) (Below.refl _ _) (fun _ => rfl)
     (fun pre V => zbb V i c ep { m with TL := (pre.map (fun x : RSg c => x.1)).foldl (zfj m.now) T1 } /\ KX (fun k => k = i.tb) X2.heap.size (X2.heap.size + 2) X2 V)
     (fun _ _ _ => False)
     (fun s A B row hs hg hr => ⟨hs.1.kept (f := fun k => X2.heap.size <= k) ⟨hg.os, hg.tape, hg.output, hg.size, fun k hk hn => hg.block k hk (fun e => hn (hr k e.symm).1)⟩ (fun k hk e => by have := ud HFO2 k hk; omega), KX.own (β := Unit) (q := X2.heap.size) (Nat.le_refl _) () A B row hs.2 hg hr⟩)
     (fun _ _ _ _ _ hs _ _ => hs)
     ⟨ud HM2, KX.refl _ _ _ _⟩
     (fun x a' V => ∃ Bx, X2.heap.size <= Bx /\ V.heap[Bx]? = some (.cells #[int i64 x.1.t, int i64 x.1.ser, int i64 x.1.win] 137 (0, 0)) /\ a' = { tmps := #[.pointer (some ⟨i.x, 0, none⟩), .pointer (some ⟨w.heap.size, 0, none⟩), undef, .pointer (some ⟨Bx, 0, none⟩), .pointer (some ⟨i.x, 0, none⟩), .pointer (some ⟨i.x, 0, none⟩), .pointer (some ⟨i.x, 9, none⟩), .pointer (some ⟨i.s, 0, none⟩), .pointer (some ⟨i.x, 0, none⟩), .pointer (some ⟨i.x, 0, none⟩), .pointer (some ⟨i.x, 8, none⟩), int i64 m.now, .func (.func 191) #[] #[.pointer (some ⟨Bl, 0, none⟩), .pointer (some ⟨Bh, 0, none⟩)], undef, undef, undef, undef, undef, undef, undef, undef, undef, undef, undef, undef, undef, .pointer (some ⟨i.x, 0, none⟩), .pointer (some ⟨i.x, 0, none⟩), .pointer (some ⟨i.x, 9, none⟩), .pointer (some ⟨i.s, 0, none⟩), .pointer (some ⟨i.x, 0, none⟩), .pointer (some ⟨i.x, 0, none⟩), .pointer (some ⟨i.x, 8, none⟩), int i64 m.now, .func (.func 191) #[] #[.pointer (some ⟨Bl2, 0, none⟩), .pointer (some ⟨Bh2, 0, none⟩)], .agg #[int i64 x.1.t, int i64 x.1.ser, int i64 x.1.win], undef, undef, undef, undef, undef, undef, undef, undef, undef, undef, undef, undef], defers := [] })
     (fun x a' s A B row hs hg hr => by
      obtain ⟨Bx, h1, h2, h3⟩ := hs
      exact ⟨Bx, h1, zbc h2 hg (fun r e => (hr r e).2), h3⟩) ?assign2 ?body2 ?done2 ?stop2
    case assign2 =>
     rintro l pre x V K ⟨j1, j2⟩ hK
     have HK := zab hK
     have hzV := j2.kept.size
     clear hK
     gi_wp2
     have hba := (Below.refl V.heap.size V).alloc (Nat.le_refl _) (.cells #[int i64 x.1.t, int i64 x.1.ser, int i64 x.1.win] 137)
     exact ud HK _ _ (zba hba) (KX.of_below hba) ⟨j1.later hba, j2.trans (KX.of_below hba)⟩ ⟨V.heap.size, hzV, zap _ _, rfl⟩
    case body2 =>
     rintro l pre x a' V hl ⟨r, hr⟩ ⟨j1, j2⟩ ⟨Bx, hBx, hx, rfl⟩ hlt
     have hzV := j2.kept.size
     have hp3 := zdg j2 (ud HQ2) (by omega) (by omega)
     obtain ⟨-, -, -, -, -, -, -, -, m8, -, m10⟩ := j1.cells
     have mp : V.cell? ⟨w.heap.size, 0, none⟩ = some (.pointer (some ⟨i.x, 0, none⟩)) := by rw [zac hp3]; rfl
     have k0 : V.cell? ⟨Bx, 0, none⟩ = some (int i64 x.1.t) := by rw [zac hx]; rfl
     have k1 : V.cell? ⟨Bx, 1, none⟩ = some (int i64 x.1.ser) := by rw [zac hx]; rfl
     have k2 : V.cell? ⟨Bx, 2, none⟩ = some (int i64 x.1.win) := by rw [zac hx]; rfl
     have hxV := j1.lt
     have hpV := zaa hp3
     have hBz := zaa hx
     dsimp only at m8
     have HJ1 := zab j1
     have HJ2 := zab j2
     have hxw := x.2.1
     have htl0 : ((pre.map (fun x : RSg c => x.1)).foldl (zfj m.now) T1).length <= 100000 := by
      have := postCs_len m.now (pre.map (fun x : RSg c => x.1)) T1
      have h9 := ud HT1
      rw [List.length_map] at this; omega
     have HPD := zab (post_Reclaim ((ud HJ1).later (Below.refl _ _).drew).board x.1 hxw m.now htl0)
     have hmx : Tryz.prog.follows .mixedOrders = true := by kernel_rfl
     clear j1 j2 hx hp3 hr htl0 hxw
     gi_wp2
     refine region_tail_in 11 hmx (by kernel_rfl) ?_
     simp only [List.take_succ_cons, List.take_zero, List.drop_succ_cons, List.drop_zero]
     repeat still_step
     refine wpStill_nil ?_
     gi_wp2_with (first | (refine ⟨trivial, ?_⟩; gi_at_call 95; refine (CallsIn.inRound l (callsIn_wide.2 (ud HPD))).mono ?_; rintro e U ⟨rfl, hB, hK⟩; have HB := zab hB; have HKK := zab hK; clear hB hK) | gi_in)
     have hkV : zan (fun k => k = i.tb) V U := (zan.refl (fun k => k = i.tb) V).drew.trans (ud HKK) (fun _ _ e => e)
     have hmV := (ud HJ1).putBoard (ud HB) (hkV.mono (fun k _ e => .inr (.inl e)))
     refine ⟨keeps_store hkV (by omega), kx_store hkV (by omega), ?_, (ud HJ2).trans (kx_store hkV (by omega))⟩
     rw [List.map_append, List.foldl_append]
     exact hmV
    case done2 =>
     rintro D2 ys V hD2 ⟨ps2, hp2, rfl⟩ ⟨j1, j2⟩ hK2
     have HJ1 := zab j1
     have HJ2 := zab j2
     have HK2 := zab hK2
     have HPS2 := zab hp2
     clear j1 j2 hK2 hp2
     gi_wp2
     have j1 := ud HJ1
     have j2 := ud HJ2
     have hzV := j2.kept.size
     have hDV := zdg j2 (ud HD2) (by omega) (by omega)
     have hne : D ≠ D2 := by omega
     have hDV1 := (World.putObj_heap_other (o := .deferred none) (w := V) hne).trans hDV
     refine ⟨by simp, .inl ⟨_, _, rfl, run_takeDeferred (ud HK2), ⟨by simp, .inl ⟨_, _, rfl, run_takeDeferred hDV1, ?_⟩⟩⟩⟩
     have kp : zan (fun k => k = D2 \/ k = D) V ((V.putObj D2 (.deferred none)).putObj D (.deferred none)) :=
      ((zan.refl (fun k => k = D2 \/ k = D) V).grown (grownBy_putObj' V D2 (.deferred none)) (fun k e _ => by cases e; exact .inl rfl)).grown (grownBy_putObj' _ D (.deferred none)) (fun k e _ => by cases e; exact .inr rfl)
     have hkW := (zan.of_below (f := fun k => k = i.tb) (ud HBW1)).trans (ud HI2).kept (fun k hk e => e.elim id (by omega))
     have hkV := (hkW.trans (zan.of_below (f := fun k => k = i.tb) (ud HB2)) (fun _ _ e => e)).trans j2.kept (fun k hk e => e.elim id (by omega))
     have hkE := hkV.trans kp (fun k hk e => by omega)
     refine ⟨_, results_none rfl _ _ _, rfl, _, j1.kept kp (fun k hk e => by have := ud HFL k hk; omega), hkE, ⟨Bs, xs.map (fun x : RSg c => x.1), (((ps2.map (fun p : Sg × SV => rSeg c p.1)).filter (fun x => reclB c m.L m.now x.1)).map (fun x : RSg c => x.1)), ud HBS, fun s => ?_, fun s => filt_mem hL (ud HPS2) (fun s => reclB c m.L m.now s) s, by rw [ud HTE]⟩⟩
     ·rw [ud HXS]; exact filt_mem hL (ud HPS) (fun s => rollB c Bs m.L m.now s) s
    case stop2 =>
     rintro D c pre W _ _ h _
     exact h.elim
  case stop =>
   rintro D c pre W _ _ h _
   exact h.elim
end Go.Proofs.YtpbimdkclnekeaaGreat
