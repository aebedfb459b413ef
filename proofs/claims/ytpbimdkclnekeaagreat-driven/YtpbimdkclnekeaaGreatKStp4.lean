import Derived.Test.YtpbimdkclnekeaaGreatKStp3
import Derived.Test.YtpbimdkclnekeaaGreatKCmt0
import Derived.StillTactics
import Derived.Test.YtpbimdkclnekeaaGreatKPck2

namespace Go.Proofs.YtpbimdkclnekeaaGreat
open Value (int)
open IntKind (i64)
open Go.RowKit Go.Maps Go.Shelf
set_option linter.unusedVariables false
set_option maxRecDepth 20000 in
set_option maxHeartbeats 8000000 in
theorem sends_fail {w : World} {B p : Nat} {c : Cf} {ep : Int} {m : MS} {ns : List Nm} {j k : Nat} (hs : ShopK w B p c ep m ns j k) (hc : c.ok) (hf : c.fits) (hep : zdg ep) (kd a b v : Int) (i : Nat) (hik : i < k) (r : Int) (hri : (k : Int) - 1 - r = i) (r0 : 0 <= r /\ r < k) (PK : ∀ W : World, Calls Tryz.prog 29 #[int i64 a, int i64 k] W fun e w' => e = .returned (int i64 r) /\ w' = W) (hj : j <= 4398046511104) (hkd : kd = 5) {g9 : Lse} (hg9 : zbq m.QL ⟨ep, (i : Int) + 1⟩ = some g9) {x9 : Tsk} (hx9 : zbq m.TL g9.job = some x9) (hwf : g9.job.wf) (htr : 0 <= x9.tries /\ x9.tries <= 1000000) :
  Calls Tryz.prog 31 #[.pointer (some ⟨p, 0, none⟩), .agg #[int i64 kd, int i64 a, int i64 b, .int .i32 v]] w fun e w' => e = .returned (.bool true) /\ EndPost w w' B p c ep m ns j := by
 have hsz := hs.size
 obtain ⟨⟨sp, si, sd, sct, snv, skv, suv⟩, rfl, h, hk, ho, hkj, hnj⟩ := hs
 dsimp only at *
 obtain ⟨r0, r1⟩ := r0
 have HMW : Hid (∀ q, zbx si q -> q < w.heap.size) := fun q hq => h.mill.foot_lt q hq
 have hsp : B <= sp := h.lo
 have hu0 := ho.ok.seg.u0 hc
 have hlen := ho.ok.seg.len400 hc
 have hb0 : Below w.heap.size w (w.alloc (.cells #[int i64 kd, int i64 a, int i64 b, .int .i32 v] 33)) := (Below.refl _ _).alloc (Nat.le_refl _) _
 have q0 := zag w (.cells #[int i64 kd, int i64 a, int i64 b, .int .i32 v] 33)
 have hX := h.later hb0
 obtain ⟨g, gc, hgv, hgl, hg0, hg1⟩ := zfd hX.krow (j := i) (by rw [zbb]; exact hik)
 obtain ⟨g2, gc2, hgv2, hgl2, hu1, huf⟩ := unt_form hX.urow (j := i) (by rw [zbk]; exact hik)
 rw [zbb] at hgv
 rw [zbk] at hgv2
 dsimp only at hgv hgv2
 subst hgv
 subst hgv2
 have hat : (tokL ep k)[i]'(by rw [zbb]; exact hik) = ⟨ep, (i : Int) + 1⟩ := (List.getElem?_eq_some_iff.1 (tokL_at ep k i hik)).2
 have hau : (zdy ep m.QL k)[i]'(by rw [zbk]; exact hik) = untM m.QL ⟨ep, (i : Int) + 1⟩ := (List.getElem?_eq_some_iff.1 (untL_at ep m.QL k i hik)).2
 rw [hat] at hg0 hg1
 rw [hau] at hu1
 dsimp only at hg0 hg1
 have hset := (hX.setUnt (g := g2) (cap := gc2) (by rw [zbk]) i 0).later (Below.refl _ _).drew
 obtain ⟨x0, -, -, -, -, -, -, -, x11, x12⟩ := hX.cells
 dsimp only at x0 x11 x12
 have xl := hX.lt
 dsimp only at xl
 have o0 : (w.alloc (.cells #[int i64 kd, int i64 a, int i64 b, .int .i32 v] 33)).cell? ⟨w.heap.size, 0, none⟩ = some (int i64 kd) := by rw [zab q0]; rfl
 have o1 : (w.alloc (.cells #[int i64 kd, int i64 a, int i64 b, .int .i32 v] 33)).cell? ⟨w.heap.size, 1, none⟩ = some (int i64 a) := by rw [zab q0]; rfl
 have ol := zaa q0
 have hne1 : ¬ g2 = sp := zar hX.head hX.urow (by decide) g2 rfl
 have hne2 : ¬ sp = g2 := fun e => hne1 e.symm
 have hne3 : ¬ g2 = g := fun e => zcb hX.urow hX.krow (by decide) g2 rfl (by simp [Value.ownBlock, e])
 have hne4 : ¬ g = g2 := fun e => hne3 e.symm
 have how : w.heap.size < (w.alloc (.cells #[int i64 kd, int i64 a, int i64 b, .int .i32 v] 33)).heap.size := ol
 have hne5 : ¬ g2 = w.heap.size := fun e => by have := h.foot_lt g2 (.inr (.inr (.inr (.inr rfl)))); omega
 have hne6 : ¬ w.heap.size = g2 := fun e => hne5 e.symm
 have e1 : IntKind.i64.wrap ((k : Int) - 1) = (k : Int) - 1 := by rw [IntKind.wrap_i64]; omega
 have e2 : IntKind.i64.wrap ((k : Int) - 1 - r) = i := by rw [IntKind.wrap_i64]; omega
 have hik' : (i : Int) < k := by omega
 have hk0 : ((k : Int) == 0) = false := by simp; omega
 have HST1 := zac (zdj hset.mill hc ⟨hu0.1, by omega⟩ (by omega))
 have HSET := zac hset
 have Q0 := zac q0
 have hbx : Bel B w (w.alloc (.cells #[int i64 kd, int i64 a, int i64 b, .int .i32 v] 33)) := Bel.of hb0 hsz
 have HBX := zac hbx
 have HX := zac hX
 have HPK := fun W => zac (PK W)
 have HO := zac ho
 have hg2l : B <= g2 := (hX.urow.lt g2 rfl).1
 clear h hX hb0 q0 hset hat hau hbx ho PK
 have hkb : (kd == 5) = true := by simp [hkd]
 have hpos := (ud HO).ok.unt_pos hg9
 have hup : 0 < untM m.QL ⟨ep, (i : Int) + 1⟩ := by rw [hpos.1]; exact hpos.2
 generalize hU9 : untM m.QL ⟨ep, (i : Int) + 1⟩ = u at hu1 hup
 have HWF := zac hwf
 have HTR := zac htr
 clear hkd
 go_enter Tryz.func31, Tryz.ntmps31
 go_wp2_with fail
 generalize (w.alloc (.cells #[int i64 kd, int i64 a, int i64 b, .int .i32 v] 33)) = X at *
 refine wp_region_still_lit (by kernel_rfl) (by kernel_rfl) ?_
 repeat still_step
 still_call (ud (HPK _))
 repeat still_step
 refine wpStill_nil ?_
 go_wp2_with fail
 refine (ud HST1).mono ?_
 rintro e V1 ⟨rfl, hb1⟩
 have HV1 := zac hb1
 have ol1 : w.heap.size < V1.heap.size := Nat.lt_of_lt_of_le ol (Nat.le_trans (Nat.le_of_eq (sz_sd X g2 i (int i64 0)).symm) hb1.size)
 have p0 := (hb1.cell (p := ⟨w.heap.size, 0, none⟩) (by rw [sz_sd]; exact ol)).trans ((cell_sd (i := i) (v := int i64 0) hne6).trans o0)
 clear hb1 HST1
 go_wp2_with fail
 have hZS := ((ud HSET).later (ud HV1)).later ((Below.refl V1.heap.size V1).alloc (Nat.le_refl _) (.cells #[int i64 m.now, int i64 (zam m.L), int i64 (zca (zbu (zam m.L) c.qu)), int i64 ep, int i64 (zad m.L 1), int i64 (zad m.L 2), int i64 (zad m.L 3), int i64 m.Gl.length] 37))
 have hZB : Bel B w (V1.alloc (.cells #[int i64 m.now, int i64 (zam m.L), int i64 (zca (zbu (zam m.L) c.qu)), int i64 ep, int i64 (zad m.L 1), int i64 (zad m.L 2), int i64 (zad m.L 3), int i64 m.Gl.length] 37)) := by
  have k1 := (Bel.unt (i := i) (ud HX).urow (int i64 0)).drew
  have k2 := (ud HBX).trans k1
  have k3 := k2.trans (Bel.of (ud HV1) (Nat.le_trans hsz k2.size))
  exact k3.alloc (Nat.le_trans hsz k3.size) _
 have hZW := zag V1 (.cells #[int i64 m.now, int i64 (zam m.L), int i64 (zca (zbu (zam m.L) c.qu)), int i64 ep, int i64 (zad m.L 1), int i64 (zad m.L 2), int i64 (zad m.L 3), int i64 m.Gl.length] 37)
 have hOO : V1.heap[w.heap.size]? = some (.cells #[int i64 kd, int i64 a, int i64 b, .int .i32 v] 33 (0, 0)) := ((ud HV1).block _ (by rw [sz_sd]; exact ol)).trans ((heap_sd hne6).trans (ud Q0))
 have hZO := (Below.heap_alloc _ (.cells #[int i64 m.now, int i64 (zam m.L), int i64 (zca (zbu (zam m.L) c.qu)), int i64 ep, int i64 (zad m.L 1), int i64 (zad m.L 2), int i64 (zad m.L 3), int i64 m.Gl.length] 37) _ (zaa hOO)).trans hOO
 have HNB : Hid (∀ q, zbx si q -> q < V1.heap.size) := fun q hq => Nat.lt_of_lt_of_le ((ud HX).mill.foot_lt q hq) (Nat.le_trans (Nat.le_of_eq (sz_sd X g2 i (int i64 0)).symm) (ud HV1).size)
 have HNO : Hid (¬ zbx si w.heap.size) := fun e => by have := (ud HX).mill.foot_lt _ e; exact absurd (ud HMW _ e) (by omega)
 have hob : ¬ w.heap.size = V1.heap.size := by have := zaa hOO; omega
 clear o0 o1 p0 x0 x11 x12 hg0 hg1 hu1 huf hgl hgl2 xl hOO HV1 HSET
 generalize (V1.alloc (.cells #[int i64 m.now, int i64 (zam m.L), int i64 (zca (zbu (zam m.L) c.qu)), int i64 ep, int i64 (zad m.L 1), int i64 (zad m.L 2), int i64 (zad m.L 3), int i64 m.Gl.length] 37)) = Z at *
 generalize hwb : V1.heap.size = wb at *
 obtain ⟨z0, -, -, -, -, -, -, -, z11, -⟩ := hZS.cells
 dsimp only at z0 z11
 obtain ⟨gz, gzc, hgz, hgzl, t0, t1⟩ := zfd hZS.krow (j := i) (by rw [zbb]; exact hik)
 rw [zbb] at hgz
 dsimp only at hgz
 cases hgz
 have hat : (tokL ep k)[i]'(by rw [zbb]; exact hik) = ⟨ep, (i : Int) + 1⟩ := (List.getElem?_eq_some_iff.1 (tokL_at ep k i hik)).2
 rw [hat] at t0 t1
 dsimp only at t0 t1
 have zl := hZS.lt
 dsimp only at zl
 have HZS := zac hZS
 have HZB := zac hZB
 have HZW := zac hZW
 have HZO := zac hZO
 have hMZ := (hZS.later (Below.refl _ _).drew).mill
 have HC := zac (fail_yes hMZ ⟨ep, (i : Int) + 1⟩ ⟨hep, by unfold zdg; dsimp only; omega⟩ hg9 hwf hx9 (ud HO).ok.now htr (by have := (ud HO).ok.t800 hc; omega))
 have HACT : Hid (Act1 c ep m ns { m with TL := zdz m.TL g9.job (x9.failed m.now), QL := zby m.QL ⟨ep, (i : Int) + 1⟩ } ns) := Act1.failed m ns _ g9 x9 hg9 hx9
 clear hMZ hZS hZB hZW hZO hat
 refine zbd 11 (by kernel_rfl) (by kernel_rfl) ?_
 simp only [List.take_succ_cons, List.take_zero, List.drop_succ_cons, List.drop_zero]
 repeat still_step
 refine wpStill_nil ?_
 go_wp2_with (first
  | (go_at_call 19; refine (ud HC).mono ?_; rintro e V2 ⟨rfl, hM, hK⟩; have hkz : zaj (zbx si) Z V2 := ((zaj.refl _ _).drew).trans hK (fun _ _ e => e); have hS2 := (ud HZS).putMill hM hkz; have s0 := (hS2.cells).1; dsimp only at s0; have sl := hS2.lt; dsimp only at sl; have HW2 := zac (hkz.heap (ud HZW) (fun e => absurd (ud HNB _ e) (by omega))); have HO2 := zac (hkz.heap (ud HZO) (ud HNO)); have hOK := (ud HACT).ok hc hf (ud HO); have hu2 := (hOK.ok.seg.u0 hc); have hl2 := (hOK.ok.seg.len400 hc); have HST2 := zac (zdj hS2.mill hc ⟨hu2.1, Int.le_trans hu2.2 (by decide)⟩ (Nat.le_trans hl2 (by decide))); dsimp only at HST2; have HS2 := zac hS2; have HB2 := zac ((ud HZB).trans (Bel.mill (ud HZS).mill hkz (Nat.le_trans hsz (ud HZB).size) (ud HZS).mlo)); have HOK := zac hOK; clear hM hK hkz hS2 hOK hu2 hl2)
  | (go_at_call 13; refine (ud HST2).mono ?_; rintro e V3 ⟨rfl, hb3⟩; have hw3 := (hb3.block _ (zaa (ud HW2))).trans (ud HW2); have ho3 := (hb3.block _ (zaa (ud HO2))).trans (ud HO2); have w0 : V3.cell? ⟨wb, 0, none⟩ = some (int i64 m.now) := (by rw [zab hw3]; rfl); have w1 : V3.cell? ⟨wb, 1, none⟩ = some (int i64 (zam m.L)) := (by rw [zab hw3]; rfl); have w2 : V3.cell? ⟨wb, 2, none⟩ = some (int i64 (zca (zbu (zam m.L) c.qu))) := (by rw [zab hw3]; rfl); have w3 : V3.cell? ⟨wb, 3, none⟩ = some (int i64 ep) := (by rw [zab hw3]; rfl); have w4 : V3.cell? ⟨wb, 4, none⟩ = some (int i64 (zad m.L 1)) := (by rw [zab hw3]; rfl); have w5 : V3.cell? ⟨wb, 5, none⟩ = some (int i64 (zad m.L 2)) := (by rw [zab hw3]; rfl); have w6 : V3.cell? ⟨wb, 6, none⟩ = some (int i64 (zad m.L 3)) := (by rw [zab hw3]; rfl); have w7 : V3.cell? ⟨wb, 7, none⟩ = some (int i64 m.Gl.length) := (by rw [zab hw3]; rfl); have wl := zaa hw3; have p0 : V3.cell? ⟨w.heap.size, 0, none⟩ = some (int i64 kd) := (by rw [zab ho3]; rfl); have pl := zaa ho3; have HB3 := zac hb3; clear hb3 hw3 ho3))
 go_ret
 have hb3 := (ud HB3).alloc (ud HB3).size (.cells #[int i64 m.now, int i64 (zam m.L), int i64 (zca (zbu (zam m.L) c.qu)), int i64 ep, int i64 (zad m.L 1), int i64 (zad m.L 2), int i64 (zad m.L 3), int i64 m.Gl.length] 37)
 have hS3 := (ud HS2).later hb3
 have e0 : zdy ep (zby m.QL ⟨ep, (i : Int) + 1⟩) k = (zdy ep m.QL k).set i 0 := untL_del (ud HO).ok.nq k i
 rw [<- e0] at hS3
 exact ⟨rfl, _, ud HACT, ⟨_, k, rfl, hS3, hk, ud HOK, hkj, hnj⟩, (ud HB2).trans (Bel.of hb3 (Nat.le_trans hsz (ud HB2).size))⟩
set_option maxRecDepth 20000 in
set_option maxHeartbeats 8000000 in
theorem sends_roll {w : World} {B p : Nat} {c : Cf} {ep : Int} {m : MS} {ns : List Nm} {j k : Nat} (hs : ShopK w B p c ep m ns j k) (hc : c.ok) (hf : c.fits) (hep : zdg ep) (kd a b v : Int) (i : Nat) (hik : i < k) (r : Int) (hri : (k : Int) - 1 - r = i) (r0 : 0 <= r /\ r < k) (PK : ∀ W : World, Calls Tryz.prog 29 #[int i64 a, int i64 k] W fun e w' => e = .returned (int i64 r) /\ w' = W) (hj : j <= 4398046511104) (hkd : ¬ kd = 5) {g9 : Lse} (hg9 : zbq m.QL ⟨ep, (i : Int) + 1⟩ = some g9) (s9 : Sg) (si9 tr9 re9 : Int) (hx9 : zbq m.TL g9.job = some ⟨true, s9, si9, tr9, re9⟩) (hwf : g9.job.wf) (hin9 : inR c s9) (k9 : Nat) (hk9 : s9.t = k9) :
  Calls Tryz.prog 31 #[.pointer (some ⟨p, 0, none⟩), .agg #[int i64 kd, int i64 a, int i64 b, .int .i32 v]] w fun e w' => e = .returned (.bool true) /\ EndPost w w' B p c ep m ns j := by
 have hsz := hs.size
 obtain ⟨⟨sp, si, sd, sct, snv, skv, suv⟩, rfl, h, hk, ho, hkj, hnj⟩ := hs
 dsimp only at *
 obtain ⟨r0, r1⟩ := r0
 have HMW : Hid (∀ q, zbx si q -> q < w.heap.size) := fun q hq => h.mill.foot_lt q hq
 have hsp : B <= sp := h.lo
 have hu0 := ho.ok.seg.u0 hc
 have hlen := ho.ok.seg.len400 hc
 have hb0 : Below w.heap.size w (w.alloc (.cells #[int i64 kd, int i64 a, int i64 b, .int .i32 v] 33)) := (Below.refl _ _).alloc (Nat.le_refl _) _
 have q0 := zag w (.cells #[int i64 kd, int i64 a, int i64 b, .int .i32 v] 33)
 have hX := h.later hb0
 obtain ⟨g, gc, hgv, hgl, hg0, hg1⟩ := zfd hX.krow (j := i) (by rw [zbb]; exact hik)
 obtain ⟨g2, gc2, hgv2, hgl2, hu1, huf⟩ := unt_form hX.urow (j := i) (by rw [zbk]; exact hik)
 rw [zbb] at hgv
 rw [zbk] at hgv2
 dsimp only at hgv hgv2
 subst hgv
 subst hgv2
 have hat : (tokL ep k)[i]'(by rw [zbb]; exact hik) = ⟨ep, (i : Int) + 1⟩ := (List.getElem?_eq_some_iff.1 (tokL_at ep k i hik)).2
 have hau : (zdy ep m.QL k)[i]'(by rw [zbk]; exact hik) = untM m.QL ⟨ep, (i : Int) + 1⟩ := (List.getElem?_eq_some_iff.1 (untL_at ep m.QL k i hik)).2
 rw [hat] at hg0 hg1
 rw [hau] at hu1
 dsimp only at hg0 hg1
 have hset := (hX.setUnt (g := g2) (cap := gc2) (by rw [zbk]) i 0).later (Below.refl _ _).drew
 obtain ⟨x0, -, -, -, -, -, -, -, x11, x12⟩ := hX.cells
 dsimp only at x0 x11 x12
 have xl := hX.lt
 dsimp only at xl
 have o0 : (w.alloc (.cells #[int i64 kd, int i64 a, int i64 b, .int .i32 v] 33)).cell? ⟨w.heap.size, 0, none⟩ = some (int i64 kd) := by rw [zab q0]; rfl
 have o1 : (w.alloc (.cells #[int i64 kd, int i64 a, int i64 b, .int .i32 v] 33)).cell? ⟨w.heap.size, 1, none⟩ = some (int i64 a) := by rw [zab q0]; rfl
 have ol := zaa q0
 have hne1 : ¬ g2 = sp := zar hX.head hX.urow (by decide) g2 rfl
 have hne2 : ¬ sp = g2 := fun e => hne1 e.symm
 have hne3 : ¬ g2 = g := fun e => zcb hX.urow hX.krow (by decide) g2 rfl (by simp [Value.ownBlock, e])
 have hne4 : ¬ g = g2 := fun e => hne3 e.symm
 have how : w.heap.size < (w.alloc (.cells #[int i64 kd, int i64 a, int i64 b, .int .i32 v] 33)).heap.size := ol
 have hne5 : ¬ g2 = w.heap.size := fun e => by have := h.foot_lt g2 (.inr (.inr (.inr (.inr rfl)))); omega
 have hne6 : ¬ w.heap.size = g2 := fun e => hne5 e.symm
 have e1 : IntKind.i64.wrap ((k : Int) - 1) = (k : Int) - 1 := by rw [IntKind.wrap_i64]; omega
 have e2 : IntKind.i64.wrap ((k : Int) - 1 - r) = i := by rw [IntKind.wrap_i64]; omega
 have hik' : (i : Int) < k := by omega
 have hk0 : ((k : Int) == 0) = false := by simp; omega
 have HST1 := zac (zdj hset.mill hc ⟨hu0.1, by omega⟩ (by omega))
 have HSET := zac hset
 have Q0 := zac q0
 have hbx : Bel B w (w.alloc (.cells #[int i64 kd, int i64 a, int i64 b, .int .i32 v] 33)) := Bel.of hb0 hsz
 have HBX := zac hbx
 have HX := zac hX
 have HPK := fun W => zac (PK W)
 have HO := zac ho
 have hg2l : B <= g2 := (hX.urow.lt g2 rfl).1
 clear h hX hb0 q0 hset hat hau hbx ho PK
 have hkb : (kd == 5) = false := by simp [hkd]
 have hpos := (ud HO).ok.unt_pos hg9
 have hup : 0 < untM m.QL ⟨ep, (i : Int) + 1⟩ := by rw [hpos.1]; exact hpos.2
 generalize hU9 : untM m.QL ⟨ep, (i : Int) + 1⟩ = u at hu1 hup
 have hcn : (zad m.L 2 == zad m.L 2 - 1) = false := by simp; omega
 have hcn2 : ¬ zad m.L 2 = zad m.L 2 - 1 := by omega
 clear hkd
 go_enter Tryz.func31, Tryz.ntmps31
 go_wp2_with fail
 generalize (w.alloc (.cells #[int i64 kd, int i64 a, int i64 b, .int .i32 v] 33)) = X at *
 refine wp_region_still_lit (by kernel_rfl) (by kernel_rfl) ?_
 repeat still_step
 still_call (ud (HPK _))
 repeat still_step
 refine wpStill_nil ?_
 go_wp2_with fail
 refine (ud HST1).mono ?_
 rintro e V1 ⟨rfl, hb1⟩
 have HV1 := zac hb1
 have ol1 : w.heap.size < V1.heap.size := Nat.lt_of_lt_of_le ol (Nat.le_trans (Nat.le_of_eq (sz_sd X g2 i (int i64 0)).symm) hb1.size)
 have p0 := (hb1.cell (p := ⟨w.heap.size, 0, none⟩) (by rw [sz_sd]; exact ol)).trans ((cell_sd (i := i) (v := int i64 0) hne6).trans o0)
 clear hb1 HST1
 go_wp2_with fail
 have hZS := ((ud HSET).later (ud HV1)).later ((Below.refl V1.heap.size V1).alloc (Nat.le_refl _) (.cells #[int i64 m.now, int i64 (zam m.L), int i64 (zca (zbu (zam m.L) c.qu)), int i64 ep, int i64 (zad m.L 1), int i64 (zad m.L 2), int i64 (zad m.L 3), int i64 m.Gl.length] 37))
 have hZB : Bel B w (V1.alloc (.cells #[int i64 m.now, int i64 (zam m.L), int i64 (zca (zbu (zam m.L) c.qu)), int i64 ep, int i64 (zad m.L 1), int i64 (zad m.L 2), int i64 (zad m.L 3), int i64 m.Gl.length] 37)) := by
  have k1 := (Bel.unt (i := i) (ud HX).urow (int i64 0)).drew
  have k2 := (ud HBX).trans k1
  have k3 := k2.trans (Bel.of (ud HV1) (Nat.le_trans hsz k2.size))
  exact k3.alloc (Nat.le_trans hsz k3.size) _
 have hZW := zag V1 (.cells #[int i64 m.now, int i64 (zam m.L), int i64 (zca (zbu (zam m.L) c.qu)), int i64 ep, int i64 (zad m.L 1), int i64 (zad m.L 2), int i64 (zad m.L 3), int i64 m.Gl.length] 37)
 have hOO : V1.heap[w.heap.size]? = some (.cells #[int i64 kd, int i64 a, int i64 b, .int .i32 v] 33 (0, 0)) := ((ud HV1).block _ (by rw [sz_sd]; exact ol)).trans ((heap_sd hne6).trans (ud Q0))
 have hZO := (Below.heap_alloc _ (.cells #[int i64 m.now, int i64 (zam m.L), int i64 (zca (zbu (zam m.L) c.qu)), int i64 ep, int i64 (zad m.L 1), int i64 (zad m.L 2), int i64 (zad m.L 3), int i64 m.Gl.length] 37) _ (zaa hOO)).trans hOO
 have HNB : Hid (∀ q, zbx si q -> q < V1.heap.size) := fun q hq => Nat.lt_of_lt_of_le ((ud HX).mill.foot_lt q hq) (Nat.le_trans (Nat.le_of_eq (sz_sd X g2 i (int i64 0)).symm) (ud HV1).size)
 have HNO : Hid (¬ zbx si w.heap.size) := fun e => by have := (ud HX).mill.foot_lt _ e; exact absurd (ud HMW _ e) (by omega)
 have hob : ¬ w.heap.size = V1.heap.size := by have := zaa hOO; omega
 clear o0 o1 p0 x0 x11 x12 hg0 hg1 hu1 huf hgl hgl2 xl hOO HV1 HSET
 generalize (V1.alloc (.cells #[int i64 m.now, int i64 (zam m.L), int i64 (zca (zbu (zam m.L) c.qu)), int i64 ep, int i64 (zad m.L 1), int i64 (zad m.L 2), int i64 (zad m.L 3), int i64 m.Gl.length] 37)) = Z at *
 generalize hwb : V1.heap.size = wb at *
 obtain ⟨z0, -, -, -, -, -, -, -, z11, -⟩ := hZS.cells
 dsimp only at z0 z11
 obtain ⟨gz, gzc, hgz, hgzl, t0, t1⟩ := zfd hZS.krow (j := i) (by rw [zbb]; exact hik)
 rw [zbb] at hgz
 dsimp only at hgz
 cases hgz
 have hat : (tokL ep k)[i]'(by rw [zbb]; exact hik) = ⟨ep, (i : Int) + 1⟩ := (List.getElem?_eq_some_iff.1 (tokL_at ep k i hik)).2
 rw [hat] at t0 t1
 dsimp only at t0 t1
 have zl := hZS.lt
 dsimp only at zl
 have HZS := zac hZS
 have HZB := zac hZB
 have HZW := zac hZW
 have HZO := zac hZO
 have hMZ := (hZS.later (Below.refl _ _).drew).mill
 obtain ⟨hRO, hRS, hR2, hRM⟩ := (ud HO).ok.rolled hg9 hx9 rfl (zcd (zcf c m.L s9.ser s9.win k9))
 dsimp only at hRO hRS hR2 hRM
 have hU2 : zam (zeg m.L s9 ⟨3, zcd (zcf c m.L s9.ser s9.win k9)⟩) = zam m.L := by
  have := hRS zep
  have e1 : zep (stL m.L s9) = 2 := by unfold zep; rw [if_neg (by omega)]
  have e2 : zep ⟨3, zcd (zcf c m.L s9.ser s9.win k9)⟩ = 2 := by simp [zep]
  rw [e1, e2] at this
  unfold zam; omega
 have hC1 : zad (zeg m.L s9 ⟨3, zcd (zcf c m.L s9.ser s9.win k9)⟩) 1 = zad m.L 1 := by
  have := hRS (isSt 1)
  have e1 : isSt 1 (stL m.L s9) = 0 := by unfold isSt; rw [if_neg (by omega)]
  have e2 : isSt 1 ⟨3, zcd (zcf c m.L s9.ser s9.win k9)⟩ = 0 := by simp [isSt]
  rw [e1, e2] at this
  unfold zad; omega
 have hin2 := hRO.seg.inr
 have hln2 := hRO.seg.len400 hc
 have HC := zac (commit_Roll hMZ hc ⟨ep, (i : Int) + 1⟩ ⟨hep, by unfold zdg; dsimp only; omega⟩ hg9 hwf s9 si9 tr9 re9 hx9 hin9 k9 hk9 (by omega) (by have := (ud HO).gl hc; omega) hin2 (Nat.le_trans hln2 (by decide)) (ud HO).ok.now (by have := (ud HO).ok.t800 hc; omega))
 clear hMZ hZS hZB hZW hZO hat hin2 hln2 hRO hRS hR2 hRM
 refine zbd 11 (by kernel_rfl) (by kernel_rfl) ?_
 simp only [List.take_succ_cons, List.take_zero, List.drop_succ_cons, List.drop_zero]
 repeat still_step
 refine wpStill_nil ?_
 go_wp2_with (first
  | (go_at_call 18; refine (ud HC).mono ?_; rintro e V2 ⟨rfl, TL9, hM, hK, hP⟩; have hkz : zaj (zbx si) Z V2 := ((zaj.refl _ _).drew).trans hK (fun _ _ e => e); have hS2 := (ud HZS).putMill hM hkz; have s0 := (hS2.cells).1; dsimp only at s0; have sl := hS2.lt; dsimp only at sl; have HW2 := zac (hkz.heap (ud HZW) (fun e => absurd (ud HNB _ e) (by omega))); have HO2 := zac (hkz.heap (ud HZO) (ud HNO)); have HACT := zac (Act1.rolled (c := c) (ep := ep) m ns _ g9 s9 si9 tr9 re9 k9 TL9 hg9 hx9 hk9 hP); have hOK := (ud HACT).ok hc hf (ud HO); have hC2 := ((ud HO).roll hc hf hg9 hx9 _ hP).2; clear hP; have hu2 := (hOK.ok.seg.u0 hc); have hl2 := (hOK.ok.seg.len400 hc); have HST2 := zac (zdj hS2.mill hc ⟨hu2.1, Int.le_trans hu2.2 (by decide)⟩ (Nat.le_trans hl2 (by decide))); dsimp only at HST2; rw [hU2, hC1, hC2] at HST2; have HS2 := zac hS2; have HB2 := zac ((ud HZB).trans (Bel.mill (ud HZS).mill hkz (Nat.le_trans hsz (ud HZB).size) (ud HZS).mlo)); have HOK := zac hOK; clear hM hK hkz hS2 hOK hu2 hl2)
  | (go_at_call 13; refine (ud HST2).mono ?_; rintro e V3 ⟨rfl, hb3⟩; have hw3 := (hb3.block _ (zaa (ud HW2))).trans (ud HW2); have ho3 := (hb3.block _ (zaa (ud HO2))).trans (ud HO2); have w0 : V3.cell? ⟨wb, 0, none⟩ = some (int i64 m.now) := (by rw [zab hw3]; rfl); have w1 : V3.cell? ⟨wb, 1, none⟩ = some (int i64 (zam m.L)) := (by rw [zab hw3]; rfl); have w2 : V3.cell? ⟨wb, 2, none⟩ = some (int i64 (zca (zbu (zam m.L) c.qu))) := (by rw [zab hw3]; rfl); have w3 : V3.cell? ⟨wb, 3, none⟩ = some (int i64 ep) := (by rw [zab hw3]; rfl); have w4 : V3.cell? ⟨wb, 4, none⟩ = some (int i64 (zad m.L 1)) := (by rw [zab hw3]; rfl); have w5 : V3.cell? ⟨wb, 5, none⟩ = some (int i64 (zad m.L 2)) := (by rw [zab hw3]; rfl); have w6 : V3.cell? ⟨wb, 6, none⟩ = some (int i64 (zad m.L 3)) := (by rw [zab hw3]; rfl); have w7 : V3.cell? ⟨wb, 7, none⟩ = some (int i64 m.Gl.length) := (by rw [zab hw3]; rfl); have wl := zaa hw3; have p0 : V3.cell? ⟨w.heap.size, 0, none⟩ = some (int i64 kd) := (by rw [zab ho3]; rfl); have pl := zaa ho3; have HB3 := zac hb3; clear hb3 hw3 ho3))
 go_ret
 have hb3 := (ud HB3).alloc (ud HB3).size (.cells #[int i64 m.now, int i64 (zam m.L), int i64 (zca (zbu (zam m.L) c.qu)), int i64 ep, int i64 (zad m.L 1), int i64 (zad m.L 2 - 1), int i64 (zad (zeg m.L s9 ⟨3, zcd (zcf c m.L s9.ser s9.win k9)⟩) 3), int i64 m.Gl.length] 37)
 have hS3 := (ud HS2).later hb3
 have e0 : zdy ep (zby m.QL ⟨ep, (i : Int) + 1⟩) k = (zdy ep m.QL k).set i 0 := untL_del (ud HO).ok.nq k i
 rw [<- e0] at hS3
 exact ⟨rfl, _, ud HACT, ⟨_, k, rfl, hS3, hk, ud HOK, hkj, hnj⟩, (ud HB2).trans (Bel.of hb3 (Nat.le_trans hsz (ud HB2).size))⟩
set_option maxRecDepth 20000 in
set_option maxHeartbeats 8000000 in
theorem sends_recl {w : World} {B p : Nat} {c : Cf} {ep : Int} {m : MS} {ns : List Nm} {j k : Nat} (hs : ShopK w B p c ep m ns j k) (hc : c.ok) (hf : c.fits) (hep : zdg ep) (kd a b v : Int) (i : Nat) (hik : i < k) (r : Int) (hri : (k : Int) - 1 - r = i) (r0 : 0 <= r /\ r < k) (PK : ∀ W : World, Calls Tryz.prog 29 #[int i64 a, int i64 k] W fun e w' => e = .returned (int i64 r) /\ w' = W) (hj : j <= 4398046511104) (hkd : ¬ kd = 5) {g9 : Lse} (hg9 : zbq m.QL ⟨ep, (i : Int) + 1⟩ = some g9) (s9 : Sg) (si9 tr9 re9 : Int) (hx9 : zbq m.TL g9.job = some ⟨false, s9, si9, tr9, re9⟩) (hwf : g9.job.wf) (hin9 : inR c s9) :
  Calls Tryz.prog 31 #[.pointer (some ⟨p, 0, none⟩), .agg #[int i64 kd, int i64 a, int i64 b, .int .i32 v]] w fun e w' => e = .returned (.bool true) /\ EndPost w w' B p c ep m ns j := by
 have hsz := hs.size
 obtain ⟨⟨sp, si, sd, sct, snv, skv, suv⟩, rfl, h, hk, ho, hkj, hnj⟩ := hs
 dsimp only at *
 obtain ⟨r0, r1⟩ := r0
 have HMW : Hid (∀ q, zbx si q -> q < w.heap.size) := fun q hq => h.mill.foot_lt q hq
 have hsp : B <= sp := h.lo
 have hu0 := ho.ok.seg.u0 hc
 have hlen := ho.ok.seg.len400 hc
 have hb0 : Below w.heap.size w (w.alloc (.cells #[int i64 kd, int i64 a, int i64 b, .int .i32 v] 33)) := (Below.refl _ _).alloc (Nat.le_refl _) _
 have q0 := zag w (.cells #[int i64 kd, int i64 a, int i64 b, .int .i32 v] 33)
 have hX := h.later hb0
 obtain ⟨g, gc, hgv, hgl, hg0, hg1⟩ := zfd hX.krow (j := i) (by rw [zbb]; exact hik)
 obtain ⟨g2, gc2, hgv2, hgl2, hu1, huf⟩ := unt_form hX.urow (j := i) (by rw [zbk]; exact hik)
 rw [zbb] at hgv
 rw [zbk] at hgv2
 dsimp only at hgv hgv2
 subst hgv
 subst hgv2
 have hat : (tokL ep k)[i]'(by rw [zbb]; exact hik) = ⟨ep, (i : Int) + 1⟩ := (List.getElem?_eq_some_iff.1 (tokL_at ep k i hik)).2
 have hau : (zdy ep m.QL k)[i]'(by rw [zbk]; exact hik) = untM m.QL ⟨ep, (i : Int) + 1⟩ := (List.getElem?_eq_some_iff.1 (untL_at ep m.QL k i hik)).2
 rw [hat] at hg0 hg1
 rw [hau] at hu1
 dsimp only at hg0 hg1
 have hset := (hX.setUnt (g := g2) (cap := gc2) (by rw [zbk]) i 0).later (Below.refl _ _).drew
 obtain ⟨x0, -, -, -, -, -, -, -, x11, x12⟩ := hX.cells
 dsimp only at x0 x11 x12
 have xl := hX.lt
 dsimp only at xl
 have o0 : (w.alloc (.cells #[int i64 kd, int i64 a, int i64 b, .int .i32 v] 33)).cell? ⟨w.heap.size, 0, none⟩ = some (int i64 kd) := by rw [zab q0]; rfl
 have o1 : (w.alloc (.cells #[int i64 kd, int i64 a, int i64 b, .int .i32 v] 33)).cell? ⟨w.heap.size, 1, none⟩ = some (int i64 a) := by rw [zab q0]; rfl
 have ol := zaa q0
 have hne1 : ¬ g2 = sp := zar hX.head hX.urow (by decide) g2 rfl
 have hne2 : ¬ sp = g2 := fun e => hne1 e.symm
 have hne3 : ¬ g2 = g := fun e => zcb hX.urow hX.krow (by decide) g2 rfl (by simp [Value.ownBlock, e])
 have hne4 : ¬ g = g2 := fun e => hne3 e.symm
 have how : w.heap.size < (w.alloc (.cells #[int i64 kd, int i64 a, int i64 b, .int .i32 v] 33)).heap.size := ol
 have hne5 : ¬ g2 = w.heap.size := fun e => by have := h.foot_lt g2 (.inr (.inr (.inr (.inr rfl)))); omega
 have hne6 : ¬ w.heap.size = g2 := fun e => hne5 e.symm
 have e1 : IntKind.i64.wrap ((k : Int) - 1) = (k : Int) - 1 := by rw [IntKind.wrap_i64]; omega
 have e2 : IntKind.i64.wrap ((k : Int) - 1 - r) = i := by rw [IntKind.wrap_i64]; omega
 have hik' : (i : Int) < k := by omega
 have hk0 : ((k : Int) == 0) = false := by simp; omega
 have HST1 := zac (zdj hset.mill hc ⟨hu0.1, by omega⟩ (by omega))
 have HSET := zac hset
 have Q0 := zac q0
 have hbx : Bel B w (w.alloc (.cells #[int i64 kd, int i64 a, int i64 b, .int .i32 v] 33)) := Bel.of hb0 hsz
 have HBX := zac hbx
 have HX := zac hX
 have HPK := fun W => zac (PK W)
 have HO := zac ho
 have hg2l : B <= g2 := (hX.urow.lt g2 rfl).1
 clear h hX hb0 q0 hset hat hau hbx ho PK
 have hkb : (kd == 5) = false := by simp [hkd]
 have hpos := (ud HO).ok.unt_pos hg9
 have hup : 0 < untM m.QL ⟨ep, (i : Int) + 1⟩ := by rw [hpos.1]; exact hpos.2
 generalize hU9 : untM m.QL ⟨ep, (i : Int) + 1⟩ = u at hu1 hup
 clear hkd
 go_enter Tryz.func31, Tryz.ntmps31
 go_wp2_with fail
 generalize (w.alloc (.cells #[int i64 kd, int i64 a, int i64 b, .int .i32 v] 33)) = X at *
 refine wp_region_still_lit (by kernel_rfl) (by kernel_rfl) ?_
 repeat still_step
 still_call (ud (HPK _))
 repeat still_step
 refine wpStill_nil ?_
 go_wp2_with fail
 refine (ud HST1).mono ?_
 rintro e V1 ⟨rfl, hb1⟩
 have HV1 := zac hb1
 have ol1 : w.heap.size < V1.heap.size := Nat.lt_of_lt_of_le ol (Nat.le_trans (Nat.le_of_eq (sz_sd X g2 i (int i64 0)).symm) hb1.size)
 have p0 := (hb1.cell (p := ⟨w.heap.size, 0, none⟩) (by rw [sz_sd]; exact ol)).trans ((cell_sd (i := i) (v := int i64 0) hne6).trans o0)
 clear hb1 HST1
 go_wp2_with fail
 have hZS := ((ud HSET).later (ud HV1)).later ((Below.refl V1.heap.size V1).alloc (Nat.le_refl _) (.cells #[int i64 m.now, int i64 (zam m.L), int i64 (zca (zbu (zam m.L) c.qu)), int i64 ep, int i64 (zad m.L 1), int i64 (zad m.L 2), int i64 (zad m.L 3), int i64 m.Gl.length] 37))
 have hZB : Bel B w (V1.alloc (.cells #[int i64 m.now, int i64 (zam m.L), int i64 (zca (zbu (zam m.L) c.qu)), int i64 ep, int i64 (zad m.L 1), int i64 (zad m.L 2), int i64 (zad m.L 3), int i64 m.Gl.length] 37)) := by
  have k1 := (Bel.unt (i := i) (ud HX).urow (int i64 0)).drew
  have k2 := (ud HBX).trans k1
  have k3 := k2.trans (Bel.of (ud HV1) (Nat.le_trans hsz k2.size))
  exact k3.alloc (Nat.le_trans hsz k3.size) _
 have hZW := zag V1 (.cells #[int i64 m.now, int i64 (zam m.L), int i64 (zca (zbu (zam m.L) c.qu)), int i64 ep, int i64 (zad m.L 1), int i64 (zad m.L 2), int i64 (zad m.L 3), int i64 m.Gl.length] 37)
 have hOO : V1.heap[w.heap.size]? = some (.cells #[int i64 kd, int i64 a, int i64 b, .int .i32 v] 33 (0, 0)) := ((ud HV1).block _ (by rw [sz_sd]; exact ol)).trans ((heap_sd hne6).trans (ud Q0))
 have hZO := (Below.heap_alloc _ (.cells #[int i64 m.now, int i64 (zam m.L), int i64 (zca (zbu (zam m.L) c.qu)), int i64 ep, int i64 (zad m.L 1), int i64 (zad m.L 2), int i64 (zad m.L 3), int i64 m.Gl.length] 37) _ (zaa hOO)).trans hOO
 have HNB : Hid (∀ q, zbx si q -> q < V1.heap.size) := fun q hq => Nat.lt_of_lt_of_le ((ud HX).mill.foot_lt q hq) (Nat.le_trans (Nat.le_of_eq (sz_sd X g2 i (int i64 0)).symm) (ud HV1).size)
 have HNO : Hid (¬ zbx si w.heap.size) := fun e => by have := (ud HX).mill.foot_lt _ e; exact absurd (ud HMW _ e) (by omega)
 have hob : ¬ w.heap.size = V1.heap.size := by have := zaa hOO; omega
 clear o0 o1 p0 x0 x11 x12 hg0 hg1 hu1 huf hgl hgl2 xl hOO HV1 HSET
 generalize (V1.alloc (.cells #[int i64 m.now, int i64 (zam m.L), int i64 (zca (zbu (zam m.L) c.qu)), int i64 ep, int i64 (zad m.L 1), int i64 (zad m.L 2), int i64 (zad m.L 3), int i64 m.Gl.length] 37)) = Z at *
 generalize hwb : V1.heap.size = wb at *
 obtain ⟨z0, -, -, -, -, -, -, -, z11, -⟩ := hZS.cells
 dsimp only at z0 z11
 obtain ⟨gz, gzc, hgz, hgzl, t0, t1⟩ := zfd hZS.krow (j := i) (by rw [zbb]; exact hik)
 rw [zbb] at hgz
 dsimp only at hgz
 cases hgz
 have hat : (tokL ep k)[i]'(by rw [zbb]; exact hik) = ⟨ep, (i : Int) + 1⟩ := (List.getElem?_eq_some_iff.1 (tokL_at ep k i hik)).2
 rw [hat] at t0 t1
 dsimp only at t0 t1
 have zl := hZS.lt
 dsimp only at zl
 have HZS := zac hZS
 have HZB := zac hZB
 have HZW := zac hZW
 have HZO := zac hZO
 have hMZ := (hZS.later (Below.refl _ _).drew).mill
 obtain ⟨hRO, hRS, hR2, hRM, hRG⟩ := (ud HO).ok.reclaimed hg9 hx9 rfl
 dsimp only at hRO hRS hR2 hRM hRG
 have hU3 : ¬ zam m.L = zam (zby m.L s9) := by
  have := hRS zep
  have e1 := (ud HO).ok.seg.use _ (zcc hRM)
  dsimp only at e1
  unfold zam; omega
 have hU2 : (zam m.L == zam (zby m.L s9)) = false := by simpa using hU3
 have hin2 := hRO.seg.inr
 have hln2 := hRO.seg.len400 hc
 have HC := zac (commit_Reclaim hMZ hc ⟨ep, (i : Int) + 1⟩ ⟨hep, by unfold zdg; dsimp only; omega⟩ hg9 hwf s9 si9 tr9 re9 hx9 hin9 (by omega) (by have := (ud HO).gl hc; omega) hin2 (Nat.le_trans hln2 (by decide)) (ud HO).ok.now (by have := (ud HO).ok.t800 hc; omega))
 clear hMZ hZS hZB hZW hZO hat hin2 hln2 hRO hRS hR2 hRM hRG
 refine zbd 11 (by kernel_rfl) (by kernel_rfl) ?_
 simp only [List.take_succ_cons, List.take_zero, List.drop_succ_cons, List.drop_zero]
 repeat still_step
 refine wpStill_nil ?_
 go_wp2_with (first
  | (go_at_call 18; refine (ud HC).mono ?_; rintro e V2 ⟨rfl, TL9, hM, hK, hP⟩; have hkz : zaj (zbx si) Z V2 := ((zaj.refl _ _).drew).trans hK (fun _ _ e => e); have hS2 := (ud HZS).putMill hM hkz; have s0 := (hS2.cells).1; dsimp only at s0; have sl := hS2.lt; dsimp only at sl; have HW2 := zac (hkz.heap (ud HZW) (fun e => absurd (ud HNB _ e) (by omega))); have HO2 := zac (hkz.heap (ud HZO) (ud HNO)); have HACT := zac (Act1.reclaimed (c := c) (ep := ep) m ns _ g9 s9 si9 tr9 re9 TL9 hg9 hx9 hP); have hOK := (ud HACT).ok hc hf (ud HO); clear hP; have hu2 := (hOK.ok.seg.u0 hc); have hl2 := (hOK.ok.seg.len400 hc); have HST2 := zac (zdj hS2.mill hc ⟨hu2.1, Int.le_trans hu2.2 (by decide)⟩ (Nat.le_trans hl2 (by decide))); dsimp only at HST2; have HS2 := zac hS2; have HB2 := zac ((ud HZB).trans (Bel.mill (ud HZS).mill hkz (Nat.le_trans hsz (ud HZB).size) (ud HZS).mlo)); have HOK := zac hOK; clear hM hK hkz hS2 hOK hu2 hl2)
  | (go_at_call 13; refine (ud HST2).mono ?_; rintro e V3 ⟨rfl, hb3⟩; have hw3 := (hb3.block _ (zaa (ud HW2))).trans (ud HW2); have ho3 := (hb3.block _ (zaa (ud HO2))).trans (ud HO2); have w0 : V3.cell? ⟨wb, 0, none⟩ = some (int i64 m.now) := (by rw [zab hw3]; rfl); have w1 : V3.cell? ⟨wb, 1, none⟩ = some (int i64 (zam m.L)) := (by rw [zab hw3]; rfl); have w2 : V3.cell? ⟨wb, 2, none⟩ = some (int i64 (zca (zbu (zam m.L) c.qu))) := (by rw [zab hw3]; rfl); have w3 : V3.cell? ⟨wb, 3, none⟩ = some (int i64 ep) := (by rw [zab hw3]; rfl); have w4 : V3.cell? ⟨wb, 4, none⟩ = some (int i64 (zad m.L 1)) := (by rw [zab hw3]; rfl); have w5 : V3.cell? ⟨wb, 5, none⟩ = some (int i64 (zad m.L 2)) := (by rw [zab hw3]; rfl); have w6 : V3.cell? ⟨wb, 6, none⟩ = some (int i64 (zad m.L 3)) := (by rw [zab hw3]; rfl); have w7 : V3.cell? ⟨wb, 7, none⟩ = some (int i64 m.Gl.length) := (by rw [zab hw3]; rfl); have wl := zaa hw3; have p0 : V3.cell? ⟨w.heap.size, 0, none⟩ = some (int i64 kd) := (by rw [zab ho3]; rfl); have pl := zaa ho3; have HB3 := zac hb3; clear hb3 hw3 ho3))
 go_ret
 have hb3 := (ud HB3).alloc (ud HB3).size (.cells #[int i64 m.now, int i64 (zam (zby m.L s9)), int i64 (zca (zbu (zam (zby m.L s9)) c.qu)), int i64 ep, int i64 (zad (zby m.L s9) 1), int i64 (zad (zby m.L s9) 2), int i64 (zad (zby m.L s9) 3), int i64 (zdz m.Gl s9 ()).length] 37)
 have hS3 := (ud HS2).later hb3
 have e0 : zdy ep (zby m.QL ⟨ep, (i : Int) + 1⟩) k = (zdy ep m.QL k).set i 0 := untL_del (ud HO).ok.nq k i
 rw [<- e0] at hS3
 exact ⟨rfl, _, ud HACT, ⟨_, k, rfl, hS3, hk, ud HOK, hkj, hnj⟩, (ud HB2).trans (Bel.of hb3 (Nat.le_trans hsz (ud HB2).size))⟩
set_option maxRecDepth 20000 in
set_option maxHeartbeats 2000000 in
theorem sends_none {w : World} {B p : Nat} {c : Cf} {ep : Int} {m : MS} {ns : List Nm} {j : Nat} (hs : ShopK w B p c ep m ns j 0) (kd a b v : Int) :
  Calls Tryz.prog 31 #[.pointer (some ⟨p, 0, none⟩), .agg #[int i64 kd, int i64 a, int i64 b, .int .i32 v]] w fun e w' => e = .returned (.bool true) /\ EndPost w w' B p c ep m ns j := by
 have hsz := hs.size
 obtain ⟨⟨sp, si, sd, sct, snv, skv, suv⟩, rfl, h, hk, ho, hkj, hnj⟩ := hs
 dsimp only at *
 obtain ⟨ka, kc, hka⟩ := zbt h.krow
 rw [zbb] at hka
 dsimp only at hka
 subst hka
 have hb0 : Below w.heap.size w (w.alloc (.cells #[int i64 kd, int i64 a, int i64 b, .int .i32 v] 33)) := (Below.refl _ _).alloc (Nat.le_refl _) _
 have hX := h.later hb0
 obtain ⟨-, -, -, -, -, -, -, -, x11, -⟩ := hX.cells
 dsimp only at x11
 have xl := hX.lt
 dsimp only at xl
 have HX := zac hX
 have HB := zac (Bel.of hb0 hsz)
 have HO := zac ho
 clear h hX hb0 ho
 go_enter Tryz.func31, Tryz.ntmps31
 go_wp2_with fail
 go_ret
 exact ⟨rfl, m, Act1.same m ns, ⟨_, 0, rfl, ud HX, hk, ud HO, hkj, hnj⟩, ud HB⟩
theorem sends_any {w : World} {B p : Nat} {c : Cf} {ep : Int} {m : MS} {ns : List Nm} {j : Nat} (hs : Shop w B p c ep m ns j) (hc : c.ok) (hf : c.fits) (hep : zdg ep) (kd a b v : Int) (ha : -9223372036854775808 <= a /\ a <= 9223372036854775807) (hj : j <= 4398046511104) :
  Calls Tryz.prog 31 #[.pointer (some ⟨p, 0, none⟩), .agg #[int i64 kd, int i64 a, int i64 b, .int .i32 v]] w fun e w' => e = .returned (.bool true) /\ EndPost w w' B p c ep m ns j := by
 obtain ⟨s, k, h1, h2, hk, ho, hkj, hnj⟩ := hs
 have hs : ShopK w B p c ep m ns j k := ⟨s, h1, h2, hk, ho, hkj, hnj⟩
 clear h1 h2
 by_cases hk0 : k = 0
 ·subst hk0
  exact sends_none hs kd a b v
 ·obtain ⟨r, r0, r1, PK⟩ := zdc a k ha (by omega)
  have hri : (k : Int) - 1 - r = (((k : Int) - 1 - r).toNat : Int) := by omega
  have hik : ((k : Int) - 1 - r).toNat < k := by omega
  generalize ((k : Int) - 1 - r).toNat = i at *
  cases hg : zbq m.QL ⟨ep, (i : Int) + 1⟩ with
  | none =>
   by_cases hkd : kd = 5
   ·exact sends_no5 hs hc hf hep kd a b v i hik r hri ⟨r0, r1⟩ PK hj hkd hg
   ·exact sends_no4 hs hc hf hep kd a b v i hik r hri ⟨r0, r1⟩ PK hj hkd hg
  | some g =>
   obtain ⟨x, hx, hwf, hin, hkn, htr⟩ := ho.job hc hg
   by_cases hkd : kd = 5
   ·exact sends_fail hs hc hf hep kd a b v i hik r hri ⟨r0, r1⟩ PK hj hkd hg hx hwf htr
   ·obtain ⟨rl, s9, si9, tr9, re9⟩ := x
    cases rl with
    | true =>
     obtain ⟨k9, hk9⟩ := hkn rfl
     exact sends_roll hs hc hf hep kd a b v i hik r hri ⟨r0, r1⟩ PK hj hkd hg s9 si9 tr9 re9 hx hwf hin k9 hk9
    | false => exact sends_recl hs hc hf hep kd a b v i hik r hri ⟨r0, r1⟩ PK hj hkd hg s9 si9 tr9 re9 hx hwf hin
def StepPost (w w' : World) (B p : Nat) (c : Cf) (ep : Int) (m : MS) (ns : List Nm) (j : Nat) (kd : Int) : Prop := ∃ m1 m' ns', Act1 c ep m ns m1 ns' /\ Act1 c ep m1 ns' m' ns' /\ Shop w' B p c ep m' ns' (j + 1) /\ Bel B w w' /\ (kd = 1 -> (m' = m /\ ns' = ns /\ c.qu < zam m.L + 1 + 2 * c.n) \/ ∃ x, ns' = ns ++ [x] /\ zam m.L < zam m'.L /\ zam m'.L <= zam m.L + 1 + 2 * c.n) /\ (¬ kd = 1 -> ns' = ns)
set_option maxRecDepth 20000 in
set_option maxHeartbeats 4000000 in
theorem sstep_1 {w : World} {B p : Nat} {c : Cf} {ep : Int} {m : MS} {ns : List Nm} {j : Nat} (hs : Shop w B p c ep m ns j) (hc : c.ok) (hf : c.fits) (hep : zdg ep) (kd a b v : Int) (ha : -9223372036854775808 <= a /\ a <= 9223372036854775807) (hbb : -9223372036854775808 <= b /\ b <= 9223372036854775807) (hv : -2147483648 <= v /\ v <= 2147483647) (hj : j < 4398046511104) (hkd : kd = 1) :
  Calls Tryz.prog 11 #[.pointer (some ⟨p, 0, none⟩), .agg #[int i64 kd, int i64 a, int i64 b, .int .i32 v]] w fun e w' => e = .returned (.bool true) /\ StepPost w w' B p c ep m ns j kd := by
 have hsz := hs.size
 have hb0 : Below w.heap.size w (w.alloc (.cells #[int i64 kd, int i64 a, int i64 b, .int .i32 v] 33)) := (Below.refl _ _).alloc (Nat.le_refl _) _
 have q0 := zag w (.cells #[int i64 kd, int i64 a, int i64 b, .int .i32 v] 33)
 have hX := hs.later hb0
 have o0 : (w.alloc (.cells #[int i64 kd, int i64 a, int i64 b, .int .i32 v] 33)).cell? ⟨w.heap.size, 0, none⟩ = some (int i64 kd) := by rw [zab q0]; rfl
 have o1 : (w.alloc (.cells #[int i64 kd, int i64 a, int i64 b, .int .i32 v] 33)).cell? ⟨w.heap.size, 1, none⟩ = some (int i64 a) := by rw [zab q0]; rfl
 have o2 : (w.alloc (.cells #[int i64 kd, int i64 a, int i64 b, .int .i32 v] 33)).cell? ⟨w.heap.size, 2, none⟩ = some (int i64 b) := by rw [zab q0]; rfl
 have o3 : (w.alloc (.cells #[int i64 kd, int i64 a, int i64 b, .int .i32 v] 33)).cell? ⟨w.heap.size, 3, none⟩ = some (.int .i32 v) := by rw [zab q0]; rfl
 have ol := zaa q0
 have HB0 := zac (Bel.of hb0 hsz)
 have HBW := zac hb0
 have HX := zac hX
 have HS := zac hs
 clear hb0 q0 hX hs
 have k1 : (kd == 1) = true := by subst hkd; rfl
 have k2 : (kd == 2) = false := by subst hkd; rfl
 have k3 : (kd == 3) = false := by subst hkd; rfl
 have k4 : (kd == 4) = false := by subst hkd; rfl
 have k5 : (kd == 5) = false := by subst hkd; rfl
 have k6 : (kd == 6) = false := by subst hkd; rfl
 have HI := zac (sing_any (ud HX) hc hf kd a b v ha hbb hv hj)
 clear hkd
 go_enter Tryz.func11, Tryz.ntmps11
 go_wp2_with (first | (go_at_call 28; refine (ud HI).mono ?_; rintro e V ⟨rfl, hP⟩; have HP := zac hP; clear hP))
 go_ret
 obtain ⟨m', ns', h1, h2, h3, h4⟩ := ud HP
 exact ⟨rfl, m', m', ns', h1, Act1.same m' ns', h2, (ud HB0).trans h3, fun _ => h4, fun e => absurd (by simpa using k1) e⟩
set_option maxRecDepth 20000 in
set_option maxHeartbeats 4000000 in
theorem sstep_2 {w : World} {B p : Nat} {c : Cf} {ep : Int} {m : MS} {ns : List Nm} {j : Nat} (hs : Shop w B p c ep m ns j) (hc : c.ok) (hf : c.fits) (hep : zdg ep) (kd a b v : Int) (ha : -9223372036854775808 <= a /\ a <= 9223372036854775807) (hbb : -9223372036854775808 <= b /\ b <= 9223372036854775807) (hv : -2147483648 <= v /\ v <= 2147483647) (hj : j < 4398046511104) (hkd : kd = 2) :
  Calls Tryz.prog 11 #[.pointer (some ⟨p, 0, none⟩), .agg #[int i64 kd, int i64 a, int i64 b, .int .i32 v]] w fun e w' => e = .returned (.bool true) /\ StepPost w w' B p c ep m ns j kd := by
 have hsz := hs.size
 have hb0 : Below w.heap.size w (w.alloc (.cells #[int i64 kd, int i64 a, int i64 b, .int .i32 v] 33)) := (Below.refl _ _).alloc (Nat.le_refl _) _
 have q0 := zag w (.cells #[int i64 kd, int i64 a, int i64 b, .int .i32 v] 33)
 have hX := hs.later hb0
 have o0 : (w.alloc (.cells #[int i64 kd, int i64 a, int i64 b, .int .i32 v] 33)).cell? ⟨w.heap.size, 0, none⟩ = some (int i64 kd) := by rw [zab q0]; rfl
 have o1 : (w.alloc (.cells #[int i64 kd, int i64 a, int i64 b, .int .i32 v] 33)).cell? ⟨w.heap.size, 1, none⟩ = some (int i64 a) := by rw [zab q0]; rfl
 have o2 : (w.alloc (.cells #[int i64 kd, int i64 a, int i64 b, .int .i32 v] 33)).cell? ⟨w.heap.size, 2, none⟩ = some (int i64 b) := by rw [zab q0]; rfl
 have o3 : (w.alloc (.cells #[int i64 kd, int i64 a, int i64 b, .int .i32 v] 33)).cell? ⟨w.heap.size, 3, none⟩ = some (.int .i32 v) := by rw [zab q0]; rfl
 have ol := zaa q0
 have HB0 := zac (Bel.of hb0 hsz)
 have HBW := zac hb0
 have HX := zac hX
 have HS := zac hs
 clear hb0 q0 hX hs
 have k1 : (kd == 1) = false := by subst hkd; rfl
 have k2 : (kd == 2) = true := by subst hkd; rfl
 have k3 : (kd == 3) = false := by subst hkd; rfl
 have k4 : (kd == 4) = false := by subst hkd; rfl
 have k5 : (kd == 5) = false := by subst hkd; rfl
 have k6 : (kd == 6) = false := by subst hkd; rfl
 have hne1 : ¬ kd = 1 := by omega
 obtain ⟨r, r0, r1, PK⟩ := zdc a 1000 ha (by omega)
 have HPK := fun W => zac (PK W)
 have e1 : IntKind.i64.wrap (1 + r) = 1 + r := by rw [IntKind.wrap_i64]; omega
 clear hkd PK
 by_cases hl : 100000 < m.now + (1 + r)
 ·have HT := zac (stick_late (ud HX) (1 + r) ⟨by omega, by omega⟩ hl)
  go_enter Tryz.func11, Tryz.ntmps11
  go_wp2_with (first
   | (go_at_call 29; refine (ud (HPK _)).mono ?_; rintro e W9 ⟨rfl, h9⟩; subst h9)
   | (go_at_call 15; refine (ud HT).mono ?_; rintro e V ⟨rfl, hP⟩; have HP := zac hP; clear hP))
  go_ret
  have hb := (ud HP)
  exact ⟨rfl, m, m, ns, Act1.same m ns, Act1.same m ns, ((ud HX).later hb).mono (Nat.le_succ j), (ud HB0).trans (Bel.of hb (Nat.le_trans hsz (ud HB0).size)), fun e => absurd e hne1, fun _ => rfl⟩
 ·have HT := zac (stick_good (ud HX) hc hf (1 + r) ⟨by omega, by omega⟩ (by omega) (by omega))
  go_enter Tryz.func11, Tryz.ntmps11
  go_wp2_with (first
   | (go_at_call 29; refine (ud (HPK _)).mono ?_; rintro e W9 ⟨rfl, h9⟩; subst h9)
   | (go_at_call 15; refine (ud HT).mono ?_; rintro e V ⟨rfl, hP⟩; have HP := zac hP; clear hP))
  go_ret
  obtain ⟨m', h1, h2, h3⟩ := ud HP
  exact ⟨rfl, m', m', ns, h1, Act1.same m' ns, h2.mono (Nat.le_succ j), (ud HB0).trans h3, fun e => absurd e hne1, fun _ => rfl⟩
set_option maxRecDepth 20000 in
set_option maxHeartbeats 4000000 in
theorem sstep_3 {w : World} {B p : Nat} {c : Cf} {ep : Int} {m : MS} {ns : List Nm} {j : Nat} (hs : Shop w B p c ep m ns j) (hc : c.ok) (hf : c.fits) (hep : zdg ep) (kd a b v : Int) (ha : -9223372036854775808 <= a /\ a <= 9223372036854775807) (hbb : -9223372036854775808 <= b /\ b <= 9223372036854775807) (hv : -2147483648 <= v /\ v <= 2147483647) (hj : j < 4398046511104) (hkd : kd = 3) :
  Calls Tryz.prog 11 #[.pointer (some ⟨p, 0, none⟩), .agg #[int i64 kd, int i64 a, int i64 b, .int .i32 v]] w fun e w' => e = .returned (.bool true) /\ StepPost w w' B p c ep m ns j kd := by
 have hsz := hs.size
 have hb0 : Below w.heap.size w (w.alloc (.cells #[int i64 kd, int i64 a, int i64 b, .int .i32 v] 33)) := (Below.refl _ _).alloc (Nat.le_refl _) _
 have q0 := zag w (.cells #[int i64 kd, int i64 a, int i64 b, .int .i32 v] 33)
 have hX := hs.later hb0
 have o0 : (w.alloc (.cells #[int i64 kd, int i64 a, int i64 b, .int .i32 v] 33)).cell? ⟨w.heap.size, 0, none⟩ = some (int i64 kd) := by rw [zab q0]; rfl
 have o1 : (w.alloc (.cells #[int i64 kd, int i64 a, int i64 b, .int .i32 v] 33)).cell? ⟨w.heap.size, 1, none⟩ = some (int i64 a) := by rw [zab q0]; rfl
 have o2 : (w.alloc (.cells #[int i64 kd, int i64 a, int i64 b, .int .i32 v] 33)).cell? ⟨w.heap.size, 2, none⟩ = some (int i64 b) := by rw [zab q0]; rfl
 have o3 : (w.alloc (.cells #[int i64 kd, int i64 a, int i64 b, .int .i32 v] 33)).cell? ⟨w.heap.size, 3, none⟩ = some (.int .i32 v) := by rw [zab q0]; rfl
 have ol := zaa q0
 have HB0 := zac (Bel.of hb0 hsz)
 have HBW := zac hb0
 have HX := zac hX
 have HS := zac hs
 clear hb0 q0 hX hs
 have k1 : (kd == 1) = false := by subst hkd; rfl
 have k2 : (kd == 2) = false := by subst hkd; rfl
 have k3 : (kd == 3) = true := by subst hkd; rfl
 have k4 : (kd == 4) = false := by subst hkd; rfl
 have k5 : (kd == 5) = false := by subst hkd; rfl
 have k6 : (kd == 6) = false := by subst hkd; rfl
 have hne1 : ¬ kd = 1 := by omega
 have hcs := hc.sl
 obtain ⟨r, r0, r1, PK⟩ := zdc a c.s ha (by omega)
 have HPK := fun W => zac (PK W)
 obtain ⟨s9, k9, hp9, hS9, hk9, -, hkj9, -⟩ := ud HX
 obtain ⟨-, x2, -, -, -, -, -, -, x11, -⟩ := hS9.cells
 have xl := hS9.lt
 rw [hp9] at x2 x11 xl
 obtain ⟨ka, kc, hka⟩ := zbt hS9.krow
 rw [zbb] at hka
 rw [hka] at x11
 clear hS9 hka hkd PK
 have HT := zac (stake_any ((ud HX).later (Below.refl _ _).drew) hc hf hep r ⟨r0, r1⟩ hj)
 go_enter Tryz.func11, Tryz.ntmps11
 go_wp2_with fail
 generalize (w.alloc (.cells #[int i64 kd, int i64 a, int i64 b, .int .i32 v] 33)) = X at *
 refine zbd 9 (by kernel_rfl) (by kernel_rfl) ?_
 simp only [List.take_succ_cons, List.take_zero, List.drop_succ_cons, List.drop_zero]
 repeat still_step
 still_call (ud (HPK _))
 refine wpStill_nil ?_
 go_wp2_with (first | (go_at_call 30; refine (ud HT).mono ?_; rintro e V ⟨rfl, hP⟩; have HP := zac hP; clear hP))
 go_ret
 obtain ⟨m', h1, h2, h3, _⟩ := ud HP
 exact ⟨rfl, m', m', ns, h1, Act1.same m' ns, h2, ((ud HB0).drew).trans h3, fun e => absurd e hne1, fun _ => rfl⟩
set_option maxRecDepth 20000 in
set_option maxHeartbeats 4000000 in
theorem sstep_4 {w : World} {B p : Nat} {c : Cf} {ep : Int} {m : MS} {ns : List Nm} {j : Nat} (hs : Shop w B p c ep m ns j) (hc : c.ok) (hf : c.fits) (hep : zdg ep) (kd a b v : Int) (ha : -9223372036854775808 <= a /\ a <= 9223372036854775807) (hbb : -9223372036854775808 <= b /\ b <= 9223372036854775807) (hv : -2147483648 <= v /\ v <= 2147483647) (hj : j < 4398046511104) (hkd : kd = 4) :
  Calls Tryz.prog 11 #[.pointer (some ⟨p, 0, none⟩), .agg #[int i64 kd, int i64 a, int i64 b, .int .i32 v]] w fun e w' => e = .returned (.bool true) /\ StepPost w w' B p c ep m ns j kd := by
 have hsz := hs.size
 have hb0 : Below w.heap.size w (w.alloc (.cells #[int i64 kd, int i64 a, int i64 b, .int .i32 v] 33)) := (Below.refl _ _).alloc (Nat.le_refl _) _
 have q0 := zag w (.cells #[int i64 kd, int i64 a, int i64 b, .int .i32 v] 33)
 have hX := hs.later hb0
 have o0 : (w.alloc (.cells #[int i64 kd, int i64 a, int i64 b, .int .i32 v] 33)).cell? ⟨w.heap.size, 0, none⟩ = some (int i64 kd) := by rw [zab q0]; rfl
 have o1 : (w.alloc (.cells #[int i64 kd, int i64 a, int i64 b, .int .i32 v] 33)).cell? ⟨w.heap.size, 1, none⟩ = some (int i64 a) := by rw [zab q0]; rfl
 have o2 : (w.alloc (.cells #[int i64 kd, int i64 a, int i64 b, .int .i32 v] 33)).cell? ⟨w.heap.size, 2, none⟩ = some (int i64 b) := by rw [zab q0]; rfl
 have o3 : (w.alloc (.cells #[int i64 kd, int i64 a, int i64 b, .int .i32 v] 33)).cell? ⟨w.heap.size, 3, none⟩ = some (.int .i32 v) := by rw [zab q0]; rfl
 have ol := zaa q0
 have HB0 := zac (Bel.of hb0 hsz)
 have HBW := zac hb0
 have HX := zac hX
 have HS := zac hs
 clear hb0 q0 hX hs
 have k1 : (kd == 1) = false := by subst hkd; rfl
 have k2 : (kd == 2) = false := by subst hkd; rfl
 have k3 : (kd == 3) = false := by subst hkd; rfl
 have k4 : (kd == 4) = true := by subst hkd; rfl
 have k5 : (kd == 5) = false := by subst hkd; rfl
 have k6 : (kd == 6) = false := by subst hkd; rfl
 have hne1 : ¬ kd = 1 := by omega
 have HE := zac (sends_any (ud HX) hc hf hep kd a b v ha (by omega))
 clear hkd
 go_enter Tryz.func11, Tryz.ntmps11
 go_wp2_with (first | (go_at_call 31; refine (ud HE).mono ?_; rintro e V ⟨rfl, hP⟩; have HP := zac hP; clear hP))
 go_ret
 obtain ⟨m', h1, h2, h3⟩ := ud HP
 exact ⟨rfl, m', m', ns, h1, Act1.same m' ns, h2.mono (Nat.le_succ j), (ud HB0).trans h3, fun e => absurd e hne1, fun _ => rfl⟩
set_option maxRecDepth 20000 in
set_option maxHeartbeats 4000000 in
theorem sstep_5 {w : World} {B p : Nat} {c : Cf} {ep : Int} {m : MS} {ns : List Nm} {j : Nat} (hs : Shop w B p c ep m ns j) (hc : c.ok) (hf : c.fits) (hep : zdg ep) (kd a b v : Int) (ha : -9223372036854775808 <= a /\ a <= 9223372036854775807) (hbb : -9223372036854775808 <= b /\ b <= 9223372036854775807) (hv : -2147483648 <= v /\ v <= 2147483647) (hj : j < 4398046511104) (hkd : kd = 5) :
  Calls Tryz.prog 11 #[.pointer (some ⟨p, 0, none⟩), .agg #[int i64 kd, int i64 a, int i64 b, .int .i32 v]] w fun e w' => e = .returned (.bool true) /\ StepPost w w' B p c ep m ns j kd := by
 have hsz := hs.size
 have hb0 : Below w.heap.size w (w.alloc (.cells #[int i64 kd, int i64 a, int i64 b, .int .i32 v] 33)) := (Below.refl _ _).alloc (Nat.le_refl _) _
 have q0 := zag w (.cells #[int i64 kd, int i64 a, int i64 b, .int .i32 v] 33)
 have hX := hs.later hb0
 have o0 : (w.alloc (.cells #[int i64 kd, int i64 a, int i64 b, .int .i32 v] 33)).cell? ⟨w.heap.size, 0, none⟩ = some (int i64 kd) := by rw [zab q0]; rfl
 have o1 : (w.alloc (.cells #[int i64 kd, int i64 a, int i64 b, .int .i32 v] 33)).cell? ⟨w.heap.size, 1, none⟩ = some (int i64 a) := by rw [zab q0]; rfl
 have o2 : (w.alloc (.cells #[int i64 kd, int i64 a, int i64 b, .int .i32 v] 33)).cell? ⟨w.heap.size, 2, none⟩ = some (int i64 b) := by rw [zab q0]; rfl
 have o3 : (w.alloc (.cells #[int i64 kd, int i64 a, int i64 b, .int .i32 v] 33)).cell? ⟨w.heap.size, 3, none⟩ = some (.int .i32 v) := by rw [zab q0]; rfl
 have ol := zaa q0
 have HB0 := zac (Bel.of hb0 hsz)
 have HBW := zac hb0
 have HX := zac hX
 have HS := zac hs
 clear hb0 q0 hX hs
 have k1 : (kd == 1) = false := by subst hkd; rfl
 have k2 : (kd == 2) = false := by subst hkd; rfl
 have k3 : (kd == 3) = false := by subst hkd; rfl
 have k4 : (kd == 4) = false := by subst hkd; rfl
 have k5 : (kd == 5) = true := by subst hkd; rfl
 have k6 : (kd == 6) = false := by subst hkd; rfl
 have hne1 : ¬ kd = 1 := by omega
 have HE := zac (sends_any (ud HX) hc hf hep kd a b v ha (by omega))
 clear hkd
 go_enter Tryz.func11, Tryz.ntmps11
 go_wp2_with (first | (go_at_call 31; refine (ud HE).mono ?_; rintro e V ⟨rfl, hP⟩; have HP := zac hP; clear hP))
 go_ret
 obtain ⟨m', h1, h2, h3⟩ := ud HP
 exact ⟨rfl, m', m', ns, h1, Act1.same m' ns, h2.mono (Nat.le_succ j), (ud HB0).trans h3, fun e => absurd e hne1, fun _ => rfl⟩
set_option maxRecDepth 20000 in
set_option maxHeartbeats 4000000 in
theorem sstep_6 {w : World} {B p : Nat} {c : Cf} {ep : Int} {m : MS} {ns : List Nm} {j : Nat} (hs : Shop w B p c ep m ns j) (hc : c.ok) (hf : c.fits) (hep : zdg ep) (kd a b v : Int) (ha : -9223372036854775808 <= a /\ a <= 9223372036854775807) (hbb : -9223372036854775808 <= b /\ b <= 9223372036854775807) (hv : -2147483648 <= v /\ v <= 2147483647) (hj : j < 4398046511104) (hkd : kd = 6) :
  Calls Tryz.prog 11 #[.pointer (some ⟨p, 0, none⟩), .agg #[int i64 kd, int i64 a, int i64 b, .int .i32 v]] w fun e w' => e = .returned (.bool true) /\ StepPost w w' B p c ep m ns j kd := by
 have hsz := hs.size
 have hb0 : Below w.heap.size w (w.alloc (.cells #[int i64 kd, int i64 a, int i64 b, .int .i32 v] 33)) := (Below.refl _ _).alloc (Nat.le_refl _) _
 have q0 := zag w (.cells #[int i64 kd, int i64 a, int i64 b, .int .i32 v] 33)
 have hX := hs.later hb0
 have o0 : (w.alloc (.cells #[int i64 kd, int i64 a, int i64 b, .int .i32 v] 33)).cell? ⟨w.heap.size, 0, none⟩ = some (int i64 kd) := by rw [zab q0]; rfl
 have o1 : (w.alloc (.cells #[int i64 kd, int i64 a, int i64 b, .int .i32 v] 33)).cell? ⟨w.heap.size, 1, none⟩ = some (int i64 a) := by rw [zab q0]; rfl
 have o2 : (w.alloc (.cells #[int i64 kd, int i64 a, int i64 b, .int .i32 v] 33)).cell? ⟨w.heap.size, 2, none⟩ = some (int i64 b) := by rw [zab q0]; rfl
 have o3 : (w.alloc (.cells #[int i64 kd, int i64 a, int i64 b, .int .i32 v] 33)).cell? ⟨w.heap.size, 3, none⟩ = some (.int .i32 v) := by rw [zab q0]; rfl
 have ol := zaa q0
 have HB0 := zac (Bel.of hb0 hsz)
 have HBW := zac hb0
 have HX := zac hX
 have HS := zac hs
 clear hb0 q0 hX hs
 have k1 : (kd == 1) = false := by subst hkd; rfl
 have k2 : (kd == 2) = false := by subst hkd; rfl
 have k3 : (kd == 3) = false := by subst hkd; rfl
 have k4 : (kd == 4) = false := by subst hkd; rfl
 have k5 : (kd == 5) = false := by subst hkd; rfl
 have k6 : (kd == 6) = true := by subst hkd; rfl
 have hne1 : ¬ kd = 1 := by omega
 have hcs := hc.sl
 obtain ⟨r, r0, r1, PK⟩ := zdc a c.s ha (by omega)
 have HPK := fun W => zac (PK W)
 obtain ⟨s9, k9, hp9, hS9, hk9, -, hkj9, -⟩ := ud HX
 obtain ⟨-, x2, -, -, -, -, -, -, x11, -⟩ := hS9.cells
 have xl := hS9.lt
 rw [hp9] at x2 x11 xl
 obtain ⟨ka, kc, hka⟩ := zbt hS9.krow
 rw [zbb] at hka
 rw [hka] at x11
 clear hS9 hka hkd PK
 have HT := zac (stake_any ((ud HX).later (Below.refl _ _).drew) hc hf hep r ⟨r0, r1⟩ hj)
 go_enter Tryz.func11, Tryz.ntmps11
 go_wp2_with fail
 generalize (w.alloc (.cells #[int i64 kd, int i64 a, int i64 b, .int .i32 v] 33)) = X at *
 refine zbd 9 (by kernel_rfl) (by kernel_rfl) ?_
 simp only [List.take_succ_cons, List.take_zero, List.drop_succ_cons, List.drop_zero]
 repeat still_step
 still_call (ud (HPK _))
 refine wpStill_nil ?_
 go_wp2_with fail
 refine (ud HT).mono ?_
 rintro e V ⟨rfl, hP⟩
 have HP := zac hP
 clear hP
 obtain ⟨m', h1, h2, h3, h4⟩ := ud HP
 have h2x := h2
 obtain ⟨s8, k8, hp8, hS8, hk8, -, hkj8, -⟩ := h2
 have y11 := (hS8.cells).2.2.2.2.2.2.2.2.1
 have yl := hS8.lt
 obtain ⟨kb, kd8, hkb⟩ := zbt hS8.krow
 rw [zbb] at hkb
 rw [hkb] at y11
 rw [hp8] at y11 yl
 clear hS8 hkb
 by_cases hsame : m'.num = m.num
 ·have hkk : ((k8 : Int) == (k9 : Int)) = true := by simp; omega
  have hkk2 : (k8 : Int) = k9 := by omega
  clear hsame h4
  go_wp2_with fail
  go_ret
  obtain ⟨m', h1, h2, h3, h4⟩ := ud HP
  exact ⟨rfl, m', m', ns, h1, Act1.same m' ns, h2, ((ud HB0).drew).trans h3, fun e => absurd e hne1, fun _ => rfl⟩
 ·have hkk : ((k8 : Int) == (k9 : Int)) = false := by simp; omega
  have hkk2 : ¬ (k8 : Int) = k9 := by omega
  have HE := zac (sends_any h2x hc hf hep 4 0 0 0 (by omega) (by omega))
  clear hsame h4
  go_wp2_with (first | (go_at_call 31; refine (ud HE).mono ?_; rintro e U ⟨rfl, hQ⟩; have HQ := zac hQ; clear hQ))
  go_ret
  obtain ⟨m2, g1, g2, g3⟩ := ud HQ
  exact ⟨rfl, m', m2, ns, h1, g1, g2, ((ud HB0).drew).trans (h3.trans g3), fun e => absurd e hne1, fun _ => rfl⟩
set_option maxRecDepth 20000 in
set_option maxHeartbeats 4000000 in
theorem sstep_o {w : World} {B p : Nat} {c : Cf} {ep : Int} {m : MS} {ns : List Nm} {j : Nat} (hs : Shop w B p c ep m ns j) (hc : c.ok) (hf : c.fits) (hep : zdg ep) (kd a b v : Int) (ha : -9223372036854775808 <= a /\ a <= 9223372036854775807) (hbb : -9223372036854775808 <= b /\ b <= 9223372036854775807) (hv : -2147483648 <= v /\ v <= 2147483647) (hj : j < 4398046511104) (hkd : kd < 1 \/ 6 < kd) :
  Calls Tryz.prog 11 #[.pointer (some ⟨p, 0, none⟩), .agg #[int i64 kd, int i64 a, int i64 b, .int .i32 v]] w fun e w' => e = .returned (.bool true) /\ StepPost w w' B p c ep m ns j kd := by
 have hsz := hs.size
 have hb0 : Below w.heap.size w (w.alloc (.cells #[int i64 kd, int i64 a, int i64 b, .int .i32 v] 33)) := (Below.refl _ _).alloc (Nat.le_refl _) _
 have q0 := zag w (.cells #[int i64 kd, int i64 a, int i64 b, .int .i32 v] 33)
 have hX := hs.later hb0
 have o0 : (w.alloc (.cells #[int i64 kd, int i64 a, int i64 b, .int .i32 v] 33)).cell? ⟨w.heap.size, 0, none⟩ = some (int i64 kd) := by rw [zab q0]; rfl
 have o1 : (w.alloc (.cells #[int i64 kd, int i64 a, int i64 b, .int .i32 v] 33)).cell? ⟨w.heap.size, 1, none⟩ = some (int i64 a) := by rw [zab q0]; rfl
 have o2 : (w.alloc (.cells #[int i64 kd, int i64 a, int i64 b, .int .i32 v] 33)).cell? ⟨w.heap.size, 2, none⟩ = some (int i64 b) := by rw [zab q0]; rfl
 have o3 : (w.alloc (.cells #[int i64 kd, int i64 a, int i64 b, .int .i32 v] 33)).cell? ⟨w.heap.size, 3, none⟩ = some (.int .i32 v) := by rw [zab q0]; rfl
 have ol := zaa q0
 have HB0 := zac (Bel.of hb0 hsz)
 have HBW := zac hb0
 have HX := zac hX
 have HS := zac hs
 clear hb0 q0 hX hs
 have k1 : (kd == 1) = false := by simp; omega
 have k2 : (kd == 2) = false := by simp; omega
 have k3 : (kd == 3) = false := by simp; omega
 have k4 : (kd == 4) = false := by simp; omega
 have k5 : (kd == 5) = false := by simp; omega
 have k6 : (kd == 6) = false := by simp; omega
 have hne1 : ¬ kd = 1 := by omega
 clear hkd
 go_enter Tryz.func11, Tryz.ntmps11
 go_wp2_with fail
 go_ret
 exact ⟨rfl, m, m, ns, Act1.same m ns, Act1.same m ns, (ud HX).mono (Nat.le_succ j), ud HB0, fun e => absurd e hne1, fun _ => rfl⟩
theorem sstep_any {w : World} {B p : Nat} {c : Cf} {ep : Int} {m : MS} {ns : List Nm} {j : Nat} (hs : Shop w B p c ep m ns j) (hc : c.ok) (hf : c.fits) (hep : zdg ep) (kd a b v : Int) (ha : -9223372036854775808 <= a /\ a <= 9223372036854775807) (hbb : -9223372036854775808 <= b /\ b <= 9223372036854775807) (hv : -2147483648 <= v /\ v <= 2147483647) (hj : j < 4398046511104) :
  Calls Tryz.prog 11 #[.pointer (some ⟨p, 0, none⟩), .agg #[int i64 kd, int i64 a, int i64 b, .int .i32 v]] w fun e w' => e = .returned (.bool true) /\ StepPost w w' B p c ep m ns j kd := by
 by_cases h1 : kd = 1
 ·exact sstep_1 hs hc hf hep kd a b v ha hbb hv hj h1
 by_cases h2 : kd = 2
 ·exact sstep_2 hs hc hf hep kd a b v ha hbb hv hj h2
 by_cases h3 : kd = 3
 ·exact sstep_3 hs hc hf hep kd a b v ha hbb hv hj h3
 by_cases h4 : kd = 4
 ·exact sstep_4 hs hc hf hep kd a b v ha hbb hv hj h4
 by_cases h5 : kd = 5
 ·exact sstep_5 hs hc hf hep kd a b v ha hbb hv hj h5
 by_cases h6 : kd = 6
 ·exact sstep_6 hs hc hf hep kd a b v ha hbb hv hj h6
 exact sstep_o hs hc hf hep kd a b v ha hbb hv hj (by omega)
end Go.Proofs.YtpbimdkclnekeaaGreat
