import Derived.Test.YtpbimdkclnekeaaGreatKStp2
import Derived.Test.YtpbimdkclnekeaaGreatKCmt0
import Derived.Test.YtpbimdkclnekeaaGreatKJn1
import Derived.StillTactics

namespace Go.Proofs.YtpbimdkclnekeaaGreat
open Value (int)
open IntKind (i64)
open Go.RowKit Go.Maps Go.Shelf
set_option linter.unusedVariables false
def EndPost (w w' : World) (B p : Nat) (c : Cf) (ep : Int) (m : MS) (ns : List Nm) (j : Nat) : Prop := ∃ m', Act1 c ep m ns m' ns /\ Shop w' B p c ep m' ns j /\ Bel B w w'
def ShopK (w : World) (B p : Nat) (c : Cf) (ep : Int) (m : MS) (ns : List Nm) (j k : Nat) : Prop := ∃ s : Shp, s.p = p /\ zbn w B s c ep m m.now ns (tokL ep k) (zdy ep m.QL k) /\ m.num = k /\ SOk c ep m ns.length /\ k <= j /\ ns.length <= j
theorem ShopK.size {w : World} {B p : Nat} {c : Cf} {ep : Int} {m : MS} {ns : List Nm} {j k : Nat} (h : ShopK w B p c ep m ns j k) : B <= w.heap.size := by
 obtain ⟨s, rfl, h2, _⟩ := h
 have := h2.lo; have := h2.lt; omega
theorem sz_sd (X : World) (g i : Nat) (v : Value) : (X.setCell ⟨g, i, none⟩ v).drew.heap.size = X.heap.size := by
 have h : (X.setCell ⟨g, i, none⟩ v).heap.size = X.heap.size := by simp [World.setCell]
 exact h
theorem heap_sd {X : World} {g i k : Nat} {v : Value} (h : ¬ k = g) : (X.setCell ⟨g, i, none⟩ v).drew.heap[k]? = X.heap[k]? := zay (w := X) h
theorem cell_sd {X : World} {g i k j : Nat} {v : Value} (h : ¬ k = g) : (X.setCell ⟨g, i, none⟩ v).drew.cell? ⟨k, j, none⟩ = X.cell? ⟨k, j, none⟩ := World.cell?_of_block (a := ⟨k, j, none⟩) (heap_sd h)
set_option maxRecDepth 20000 in
set_option maxHeartbeats 8000000 in
theorem sends_no5 {w : World} {B p : Nat} {c : Cf} {ep : Int} {m : MS} {ns : List Nm} {j k : Nat} (hs : ShopK w B p c ep m ns j k) (hc : c.ok) (hf : c.fits) (hep : zdg ep) (kd a b v : Int) (i : Nat) (hik : i < k) (r : Int) (hri : (k : Int) - 1 - r = i) (r0 : 0 <= r /\ r < k) (PK : ∀ W : World, Calls Tryz.prog 29 #[int i64 a, int i64 k] W fun e w' => e = .returned (int i64 r) /\ w' = W) (hj : j <= 4398046511104) (hkd : kd = 5) (hg9 : zbq m.QL ⟨ep, (i : Int) + 1⟩ = none) :
  Calls Tryz.prog 31 #[.pointer (some ⟨p, 0, none⟩), .agg #[int i64 kd, int i64 a, int i64 b, .int .i32 v]] w fun e w' => e = .returned (.bool true) /\ EndPost w w' B p c ep m ns j := by
 have hsz := hs.size
 obtain ⟨⟨sp, si, sd, sct, snv, skv, suv⟩, rfl, h, hk, ho, hkj, hnj⟩ := hs
 dsimp only at *
 obtain ⟨r0, r1⟩ := r0
 have HMW : Hid (∀ q, zbx si q -> q < w.heap.size) := fun q hq => h.mill.foot_lt q hq
 have hsp : B <= sp := h.lo
 have hu0 := ho.ok.seg.u0 hc
 have hlen := ho.ok.seg.len400 hc
 have hb0 : Below w.heap.size w (w.alloc (.cells #[int i64 kd, int i64 a, int i64 b, .int .i32 v] 33)) := (Below.refl _ _).alloc (Nat.le_refl _) _
 have q0 := zag w (.cells #[int i64 kd, int i64 a, int i64 b, .int .i32 v] 33)
 have hX := h.later hb0
 obtain ⟨g, gc, hgv, hgl, hg0, hg1⟩ := zfd hX.krow (j := i) (by rw [zbb]; exact hik)
 obtain ⟨g2, gc2, hgv2, hgl2, hu1, huf⟩ := unt_form hX.urow (j := i) (by rw [zbk]; exact hik)
 rw [zbb] at hgv
 rw [zbk] at hgv2
 dsimp only at hgv hgv2
 subst hgv
 subst hgv2
 have hat : (tokL ep k)[i]'(by rw [zbb]; exact hik) = ⟨ep, (i : Int) + 1⟩ := (List.getElem?_eq_some_iff.1 (tokL_at ep k i hik)).2
 have hau : (zdy ep m.QL k)[i]'(by rw [zbk]; exact hik) = untM m.QL ⟨ep, (i : Int) + 1⟩ := (List.getElem?_eq_some_iff.1 (untL_at ep m.QL k i hik)).2
 rw [hat] at hg0 hg1
 rw [hau] at hu1
 dsimp only at hg0 hg1
 have hset := (hX.setUnt (g := g2) (cap := gc2) (by rw [zbk]) i 0).later (Below.refl _ _).drew
 obtain ⟨x0, -, -, -, -, -, -, -, x11, x12⟩ := hX.cells
 dsimp only at x0 x11 x12
 have xl := hX.lt
 dsimp only at xl
 have o0 : (w.alloc (.cells #[int i64 kd, int i64 a, int i64 b, .int .i32 v] 33)).cell? ⟨w.heap.size, 0, none⟩ = some (int i64 kd) := by rw [zab q0]; rfl
 have o1 : (w.alloc (.cells #[int i64 kd, int i64 a, int i64 b, .int .i32 v] 33)).cell? ⟨w.heap.size, 1, none⟩ = some (int i64 a) := by rw [zab q0]; rfl
 have ol := zaa q0
 have hne1 : ¬ g2 = sp := zar hX.head hX.urow (by decide) g2 rfl
 have hne2 : ¬ sp = g2 := fun e => hne1 e.symm
 have hne3 : ¬ g2 = g := fun e => zcb hX.urow hX.krow (by decide) g2 rfl (by simp [Value.ownBlock, e])
 have hne4 : ¬ g = g2 := fun e => hne3 e.symm
 have how : w.heap.size < (w.alloc (.cells #[int i64 kd, int i64 a, int i64 b, .int .i32 v] 33)).heap.size := ol
 have hne5 : ¬ g2 = w.heap.size := fun e => by have := h.foot_lt g2 (.inr (.inr (.inr (.inr rfl)))); omega
 have hne6 : ¬ w.heap.size = g2 := fun e => hne5 e.symm
 have e1 : IntKind.i64.wrap ((k : Int) - 1) = (k : Int) - 1 := by rw [IntKind.wrap_i64]; omega
 have e2 : IntKind.i64.wrap ((k : Int) - 1 - r) = i := by rw [IntKind.wrap_i64]; omega
 have hik' : (i : Int) < k := by omega
 have hk0 : ((k : Int) == 0) = false := by simp; omega
 have HST1 := zac (zdj hset.mill hc ⟨hu0.1, by omega⟩ (by omega))
 have HSET := zac hset
 have Q0 := zac q0
 have hbx : Bel B w (w.alloc (.cells #[int i64 kd, int i64 a, int i64 b, .int .i32 v] 33)) := Bel.of hb0 hsz
 have HBX := zac hbx
 have HX := zac hX
 have HPK := fun W => zac (PK W)
 have HO := zac ho
 have hg2l : B <= g2 := (hX.urow.lt g2 rfl).1
 clear h hX hb0 q0 hset hat hau hbx ho PK
 have hkb : (kd == 5) = true := by simp [hkd]
 have hun : untM m.QL ⟨ep, (i : Int) + 1⟩ = 0 := MOk.unt_none hg9
 rw [hun] at hu1
 clear hkd
 go_enter Tryz.func31, Tryz.ntmps31
 go_wp2_with fail
 generalize (w.alloc (.cells #[int i64 kd, int i64 a, int i64 b, .int .i32 v] 33)) = X at *
 refine wp_region_still_lit (by kernel_rfl) (by kernel_rfl) ?_
 repeat still_step
 still_call (ud (HPK _))
 repeat still_step
 refine wpStill_nil ?_
 go_wp2_with fail
 refine (ud HST1).mono ?_
 rintro e V1 ⟨rfl, hb1⟩
 have HV1 := zac hb1
 have ol1 : w.heap.size < V1.heap.size := Nat.lt_of_lt_of_le ol (Nat.le_trans (Nat.le_of_eq (sz_sd X g2 i (int i64 0)).symm) hb1.size)
 have p0 := (hb1.cell (p := ⟨w.heap.size, 0, none⟩) (by rw [sz_sd]; exact ol)).trans ((cell_sd (i := i) (v := int i64 0) hne6).trans o0)
 clear hb1 HST1
 go_wp2_with fail
 have hZS := ((ud HSET).later (ud HV1)).later ((Below.refl V1.heap.size V1).alloc (Nat.le_refl _) (.cells #[int i64 m.now, int i64 (zam m.L), int i64 (zca (zbu (zam m.L) c.qu)), int i64 ep, int i64 (zad m.L 1), int i64 (zad m.L 2), int i64 (zad m.L 3), int i64 m.Gl.length] 37))
 have hZB : Bel B w (V1.alloc (.cells #[int i64 m.now, int i64 (zam m.L), int i64 (zca (zbu (zam m.L) c.qu)), int i64 ep, int i64 (zad m.L 1), int i64 (zad m.L 2), int i64 (zad m.L 3), int i64 m.Gl.length] 37)) := by
  have k1 := (Bel.unt (i := i) (ud HX).urow (int i64 0)).drew
  have k2 := (ud HBX).trans k1
  have k3 := k2.trans (Bel.of (ud HV1) (Nat.le_trans hsz k2.size))
  exact k3.alloc (Nat.le_trans hsz k3.size) _
 have hZW := zag V1 (.cells #[int i64 m.now, int i64 (zam m.L), int i64 (zca (zbu (zam m.L) c.qu)), int i64 ep, int i64 (zad m.L 1), int i64 (zad m.L 2), int i64 (zad m.L 3), int i64 m.Gl.length] 37)
 have hOO : V1.heap[w.heap.size]? = some (.cells #[int i64 kd, int i64 a, int i64 b, .int .i32 v] 33 (0, 0)) := ((ud HV1).block _ (by rw [sz_sd]; exact ol)).trans ((heap_sd hne6).trans (ud Q0))
 have hZO := (Below.heap_alloc _ (.cells #[int i64 m.now, int i64 (zam m.L), int i64 (zca (zbu (zam m.L) c.qu)), int i64 ep, int i64 (zad m.L 1), int i64 (zad m.L 2), int i64 (zad m.L 3), int i64 m.Gl.length] 37) _ (zaa hOO)).trans hOO
 have HNB : Hid (∀ q, zbx si q -> q < V1.heap.size) := fun q hq => Nat.lt_of_lt_of_le ((ud HX).mill.foot_lt q hq) (Nat.le_trans (Nat.le_of_eq (sz_sd X g2 i (int i64 0)).symm) (ud HV1).size)
 have HNO : Hid (¬ zbx si w.heap.size) := fun e => by have := (ud HX).mill.foot_lt _ e; exact absurd (ud HMW _ e) (by omega)
 have hob : ¬ w.heap.size = V1.heap.size := by have := zaa hOO; omega
 clear o0 o1 p0 x0 x11 x12 hg0 hg1 hu1 huf hgl hgl2 xl hOO HV1 HSET
 generalize (V1.alloc (.cells #[int i64 m.now, int i64 (zam m.L), int i64 (zca (zbu (zam m.L) c.qu)), int i64 ep, int i64 (zad m.L 1), int i64 (zad m.L 2), int i64 (zad m.L 3), int i64 m.Gl.length] 37)) = Z at *
 generalize hwb : V1.heap.size = wb at *
 obtain ⟨z0, -, -, -, -, -, -, -, z11, -⟩ := hZS.cells
 dsimp only at z0 z11
 obtain ⟨gz, gzc, hgz, hgzl, t0, t1⟩ := zfd hZS.krow (j := i) (by rw [zbb]; exact hik)
 rw [zbb] at hgz
 dsimp only at hgz
 cases hgz
 have hat : (tokL ep k)[i]'(by rw [zbb]; exact hik) = ⟨ep, (i : Int) + 1⟩ := (List.getElem?_eq_some_iff.1 (tokL_at ep k i hik)).2
 rw [hat] at t0 t1
 dsimp only at t0 t1
 have zl := hZS.lt
 dsimp only at zl
 have HZS := zac hZS
 have HZB := zac hZB
 have HZW := zac hZW
 have HZO := zac hZO
 have hMZ := (hZS.later (Below.refl _ _).drew).mill
 have HC := zac (fail_no hMZ ⟨ep, (i : Int) + 1⟩ ⟨hep, by unfold zdg; dsimp only; omega⟩ hg9)
 clear hMZ hZS hZB hZW hZO hat
 refine zbd 11 (by kernel_rfl) (by kernel_rfl) ?_
 simp only [List.take_succ_cons, List.take_zero, List.drop_succ_cons, List.drop_zero]
 repeat still_step
 refine wpStill_nil ?_
 go_wp2_with (first
  | (go_at_call 19; refine (ud HC).mono ?_; rintro e V2 ⟨rfl, hb2⟩; have hz2 : Below Z.heap.size Z V2 := bel_dd hb2; have hS2 := (ud HZS).later hz2; have s0 := (hS2.cells).1; dsimp only at s0; have sl := hS2.lt; dsimp only at sl; have HW2 := zac ((hz2.block _ (zaa (ud HZW))).trans (ud HZW)); have HO2 := zac ((hz2.block _ (zaa (ud HZO))).trans (ud HZO)); have HST2 := zac (zdj hS2.mill hc ⟨hu0.1, by omega⟩ (by omega)); have HS2 := zac hS2; have HB2 := zac ((ud HZB).trans (Bel.of hz2 (Nat.le_trans hsz (ud HZB).size))); clear hb2 hz2 hS2)
  | (go_at_call 13; refine (ud HST2).mono ?_; rintro e V3 ⟨rfl, hb3⟩; have hw3 := (hb3.block _ (zaa (ud HW2))).trans (ud HW2); have ho3 := (hb3.block _ (zaa (ud HO2))).trans (ud HO2); have w0 : V3.cell? ⟨wb, 0, none⟩ = some (int i64 m.now) := (by rw [zab hw3]; rfl); have w1 : V3.cell? ⟨wb, 1, none⟩ = some (int i64 (zam m.L)) := (by rw [zab hw3]; rfl); have w2 : V3.cell? ⟨wb, 2, none⟩ = some (int i64 (zca (zbu (zam m.L) c.qu))) := (by rw [zab hw3]; rfl); have w3 : V3.cell? ⟨wb, 3, none⟩ = some (int i64 ep) := (by rw [zab hw3]; rfl); have w4 : V3.cell? ⟨wb, 4, none⟩ = some (int i64 (zad m.L 1)) := (by rw [zab hw3]; rfl); have w5 : V3.cell? ⟨wb, 5, none⟩ = some (int i64 (zad m.L 2)) := (by rw [zab hw3]; rfl); have w6 : V3.cell? ⟨wb, 6, none⟩ = some (int i64 (zad m.L 3)) := (by rw [zab hw3]; rfl); have w7 : V3.cell? ⟨wb, 7, none⟩ = some (int i64 m.Gl.length) := (by rw [zab hw3]; rfl); have wl := zaa hw3; have p0 : V3.cell? ⟨w.heap.size, 0, none⟩ = some (int i64 kd) := (by rw [zab ho3]; rfl); have pl := zaa ho3; have HB3 := zac hb3; clear hb3 hw3 ho3))
 go_ret
 have hb3 := (ud HB3).alloc (ud HB3).size (.cells #[int i64 m.now, int i64 (zam m.L), int i64 (zca (zbu (zam m.L) c.qu)), int i64 ep, int i64 (zad m.L 1), int i64 (zad m.L 2), int i64 (zad m.L 3), int i64 m.Gl.length] 37)
 have hS3 := (ud HS2).later hb3
 have e0 : (zdy ep m.QL k).set i 0 = zdy ep m.QL k := untL_none k i hun
 rw [e0] at hS3
 exact ⟨rfl, m, Act1.same m ns, ⟨_, k, rfl, hS3, hk, ud HO, hkj, hnj⟩, (ud HB2).trans (Bel.of hb3 (Nat.le_trans hsz (ud HB2).size))⟩
set_option maxRecDepth 20000 in
set_option maxHeartbeats 8000000 in
theorem sends_no4 {w : World} {B p : Nat} {c : Cf} {ep : Int} {m : MS} {ns : List Nm} {j k : Nat} (hs : ShopK w B p c ep m ns j k) (hc : c.ok) (hf : c.fits) (hep : zdg ep) (kd a b v : Int) (i : Nat) (hik : i < k) (r : Int) (hri : (k : Int) - 1 - r = i) (r0 : 0 <= r /\ r < k) (PK : ∀ W : World, Calls Tryz.prog 29 #[int i64 a, int i64 k] W fun e w' => e = .returned (int i64 r) /\ w' = W) (hj : j <= 4398046511104) (hkd : ¬ kd = 5) (hg9 : zbq m.QL ⟨ep, (i : Int) + 1⟩ = none) :
  Calls Tryz.prog 31 #[.pointer (some ⟨p, 0, none⟩), .agg #[int i64 kd, int i64 a, int i64 b, .int .i32 v]] w fun e w' => e = .returned (.bool true) /\ EndPost w w' B p c ep m ns j := by
 have hsz := hs.size
 obtain ⟨⟨sp, si, sd, sct, snv, skv, suv⟩, rfl, h, hk, ho, hkj, hnj⟩ := hs
 dsimp only at *
 obtain ⟨r0, r1⟩ := r0
 have HMW : Hid (∀ q, zbx si q -> q < w.heap.size) := fun q hq => h.mill.foot_lt q hq
 have hsp : B <= sp := h.lo
 have hu0 := ho.ok.seg.u0 hc
 have hlen := ho.ok.seg.len400 hc
 have hb0 : Below w.heap.size w (w.alloc (.cells #[int i64 kd, int i64 a, int i64 b, .int .i32 v] 33)) := (Below.refl _ _).alloc (Nat.le_refl _) _
 have q0 := zag w (.cells #[int i64 kd, int i64 a, int i64 b, .int .i32 v] 33)
 have hX := h.later hb0
 obtain ⟨g, gc, hgv, hgl, hg0, hg1⟩ := zfd hX.krow (j := i) (by rw [zbb]; exact hik)
 obtain ⟨g2, gc2, hgv2, hgl2, hu1, huf⟩ := unt_form hX.urow (j := i) (by rw [zbk]; exact hik)
 rw [zbb] at hgv
 rw [zbk] at hgv2
 dsimp only at hgv hgv2
 subst hgv
 subst hgv2
 have hat : (tokL ep k)[i]'(by rw [zbb]; exact hik) = ⟨ep, (i : Int) + 1⟩ := (List.getElem?_eq_some_iff.1 (tokL_at ep k i hik)).2
 have hau : (zdy ep m.QL k)[i]'(by rw [zbk]; exact hik) = untM m.QL ⟨ep, (i : Int) + 1⟩ := (List.getElem?_eq_some_iff.1 (untL_at ep m.QL k i hik)).2
 rw [hat] at hg0 hg1
 rw [hau] at hu1
 dsimp only at hg0 hg1
 have hset := (hX.setUnt (g := g2) (cap := gc2) (by rw [zbk]) i 0).later (Below.refl _ _).drew
 obtain ⟨x0, -, -, -, -, -, -, -, x11, x12⟩ := hX.cells
 dsimp only at x0 x11 x12
 have xl := hX.lt
 dsimp only at xl
 have o0 : (w.alloc (.cells #[int i64 kd, int i64 a, int i64 b, .int .i32 v] 33)).cell? ⟨w.heap.size, 0, none⟩ = some (int i64 kd) := by rw [zab q0]; rfl
 have o1 : (w.alloc (.cells #[int i64 kd, int i64 a, int i64 b, .int .i32 v] 33)).cell? ⟨w.heap.size, 1, none⟩ = some (int i64 a) := by rw [zab q0]; rfl
 have ol := zaa q0
 have hne1 : ¬ g2 = sp := zar hX.head hX.urow (by decide) g2 rfl
 have hne2 : ¬ sp = g2 := fun e => hne1 e.symm
 have hne3 : ¬ g2 = g := fun e => zcb hX.urow hX.krow (by decide) g2 rfl (by simp [Value.ownBlock, e])
 have hne4 : ¬ g = g2 := fun e => hne3 e.symm
 have how : w.heap.size < (w.alloc (.cells #[int i64 kd, int i64 a, int i64 b, .int .i32 v] 33)).heap.size := ol
 have hne5 : ¬ g2 = w.heap.size := fun e => by have := h.foot_lt g2 (.inr (.inr (.inr (.inr rfl)))); omega
 have hne6 : ¬ w.heap.size = g2 := fun e => hne5 e.symm
 have e1 : IntKind.i64.wrap ((k : Int) - 1) = (k : Int) - 1 := by rw [IntKind.wrap_i64]; omega
 have e2 : IntKind.i64.wrap ((k : Int) - 1 - r) = i := by rw [IntKind.wrap_i64]; omega
 have hik' : (i : Int) < k := by omega
 have hk0 : ((k : Int) == 0) = false := by simp; omega
 have HST1 := zac (zdj hset.mill hc ⟨hu0.1, by omega⟩ (by omega))
 have HSET := zac hset
 have Q0 := zac q0
 have hbx : Bel B w (w.alloc (.cells #[int i64 kd, int i64 a, int i64 b, .int .i32 v] 33)) := Bel.of hb0 hsz
 have HBX := zac hbx
 have HX := zac hX
 have HPK := fun W => zac (PK W)
 have HO := zac ho
 have hg2l : B <= g2 := (hX.urow.lt g2 rfl).1
 clear h hX hb0 q0 hset hat hau hbx ho PK
 have hkb : (kd == 5) = false := by simp [hkd]
 have hun : untM m.QL ⟨ep, (i : Int) + 1⟩ = 0 := MOk.unt_none hg9
 rw [hun] at hu1
 clear hkd
 go_enter Tryz.func31, Tryz.ntmps31
 go_wp2_with fail
 generalize (w.alloc (.cells #[int i64 kd, int i64 a, int i64 b, .int .i32 v] 33)) = X at *
 refine wp_region_still_lit (by kernel_rfl) (by kernel_rfl) ?_
 repeat still_step
 still_call (ud (HPK _))
 repeat still_step
 refine wpStill_nil ?_
 go_wp2_with fail
 refine (ud HST1).mono ?_
 rintro e V1 ⟨rfl, hb1⟩
 have HV1 := zac hb1
 have ol1 : w.heap.size < V1.heap.size := Nat.lt_of_lt_of_le ol (Nat.le_trans (Nat.le_of_eq (sz_sd X g2 i (int i64 0)).symm) hb1.size)
 have p0 := (hb1.cell (p := ⟨w.heap.size, 0, none⟩) (by rw [sz_sd]; exact ol)).trans ((cell_sd (i := i) (v := int i64 0) hne6).trans o0)
 clear hb1 HST1
 go_wp2_with fail
 have hZS := ((ud HSET).later (ud HV1)).later ((Below.refl V1.heap.size V1).alloc (Nat.le_refl _) (.cells #[int i64 m.now, int i64 (zam m.L), int i64 (zca (zbu (zam m.L) c.qu)), int i64 ep, int i64 (zad m.L 1), int i64 (zad m.L 2), int i64 (zad m.L 3), int i64 m.Gl.length] 37))
 have hZB : Bel B w (V1.alloc (.cells #[int i64 m.now, int i64 (zam m.L), int i64 (zca (zbu (zam m.L) c.qu)), int i64 ep, int i64 (zad m.L 1), int i64 (zad m.L 2), int i64 (zad m.L 3), int i64 m.Gl.length] 37)) := by
  have k1 := (Bel.unt (i := i) (ud HX).urow (int i64 0)).drew
  have k2 := (ud HBX).trans k1
  have k3 := k2.trans (Bel.of (ud HV1) (Nat.le_trans hsz k2.size))
  exact k3.alloc (Nat.le_trans hsz k3.size) _
 have hZW := zag V1 (.cells #[int i64 m.now, int i64 (zam m.L), int i64 (zca (zbu (zam m.L) c.qu)), int i64 ep, int i64 (zad m.L 1), int i64 (zad m.L 2), int i64 (zad m.L 3), int i64 m.Gl.length] 37)
 have hOO : V1.heap[w.heap.size]? = some (.cells #[int i64 kd, int i64 a, int i64 b, .int .i32 v] 33 (0, 0)) := ((ud HV1).block _ (by rw [sz_sd]; exact ol)).trans ((heap_sd hne6).trans (ud Q0))
 have hZO := (Below.heap_alloc _ (.cells #[int i64 m.now, int i64 (zam m.L), int i64 (zca (zbu (zam m.L) c.qu)), int i64 ep, int i64 (zad m.L 1), int i64 (zad m.L 2), int i64 (zad m.L 3), int i64 m.Gl.length] 37) _ (zaa hOO)).trans hOO
 have HNB : Hid (∀ q, zbx si q -> q < V1.heap.size) := fun q hq => Nat.lt_of_lt_of_le ((ud HX).mill.foot_lt q hq) (Nat.le_trans (Nat.le_of_eq (sz_sd X g2 i (int i64 0)).symm) (ud HV1).size)
 have HNO : Hid (¬ zbx si w.heap.size) := fun e => by have := (ud HX).mill.foot_lt _ e; exact absurd (ud HMW _ e) (by omega)
 have hob : ¬ w.heap.size = V1.heap.size := by have := zaa hOO; omega
 clear o0 o1 p0 x0 x11 x12 hg0 hg1 hu1 huf hgl hgl2 xl hOO HV1 HSET
 generalize (V1.alloc (.cells #[int i64 m.now, int i64 (zam m.L), int i64 (zca (zbu (zam m.L) c.qu)), int i64 ep, int i64 (zad m.L 1), int i64 (zad m.L 2), int i64 (zad m.L 3), int i64 m.Gl.length] 37)) = Z at *
 generalize hwb : V1.heap.size = wb at *
 obtain ⟨z0, -, -, -, -, -, -, -, z11, -⟩ := hZS.cells
 dsimp only at z0 z11
 obtain ⟨gz, gzc, hgz, hgzl, t0, t1⟩ := zfd hZS.krow (j := i) (by rw [zbb]; exact hik)
 rw [zbb] at hgz
 dsimp only at hgz
 cases hgz
 have hat : (tokL ep k)[i]'(by rw [zbb]; exact hik) = ⟨ep, (i : Int) + 1⟩ := (List.getElem?_eq_some_iff.1 (tokL_at ep k i hik)).2
 rw [hat] at t0 t1
 dsimp only at t0 t1
 have zl := hZS.lt
 dsimp only at zl
 have HZS := zac hZS
 have HZB := zac hZB
 have HZW := zac hZW
 have HZO := zac hZO
 have hMZ := (hZS.later (Below.refl _ _).drew).mill
 have HC := zac (commit_no hMZ ⟨ep, (i : Int) + 1⟩ ⟨hep, by unfold zdg; dsimp only; omega⟩ hg9)
 clear hMZ hZS hZB hZW hZO hat
 refine zbd 11 (by kernel_rfl) (by kernel_rfl) ?_
 simp only [List.take_succ_cons, List.take_zero, List.drop_succ_cons, List.drop_zero]
 repeat still_step
 refine wpStill_nil ?_
 go_wp2_with (first
  | (go_at_call 18; refine (ud HC).mono ?_; rintro e V2 ⟨rfl, hb2⟩; have hz2 : Below Z.heap.size Z V2 := bel_dd hb2; have hS2 := (ud HZS).later hz2; have s0 := (hS2.cells).1; dsimp only at s0; have sl := hS2.lt; dsimp only at sl; have HW2 := zac ((hz2.block _ (zaa (ud HZW))).trans (ud HZW)); have HO2 := zac ((hz2.block _ (zaa (ud HZO))).trans (ud HZO)); have HST2 := zac (zdj hS2.mill hc ⟨hu0.1, by omega⟩ (by omega)); have HS2 := zac hS2; have HB2 := zac ((ud HZB).trans (Bel.of hz2 (Nat.le_trans hsz (ud HZB).size))); clear hb2 hz2 hS2)
  | (go_at_call 13; refine (ud HST2).mono ?_; rintro e V3 ⟨rfl, hb3⟩; have hw3 := (hb3.block _ (zaa (ud HW2))).trans (ud HW2); have ho3 := (hb3.block _ (zaa (ud HO2))).trans (ud HO2); have w0 : V3.cell? ⟨wb, 0, none⟩ = some (int i64 m.now) := (by rw [zab hw3]; rfl); have w1 : V3.cell? ⟨wb, 1, none⟩ = some (int i64 (zam m.L)) := (by rw [zab hw3]; rfl); have w2 : V3.cell? ⟨wb, 2, none⟩ = some (int i64 (zca (zbu (zam m.L) c.qu))) := (by rw [zab hw3]; rfl); have w3 : V3.cell? ⟨wb, 3, none⟩ = some (int i64 ep) := (by rw [zab hw3]; rfl); have w4 : V3.cell? ⟨wb, 4, none⟩ = some (int i64 (zad m.L 1)) := (by rw [zab hw3]; rfl); have w5 : V3.cell? ⟨wb, 5, none⟩ = some (int i64 (zad m.L 2)) := (by rw [zab hw3]; rfl); have w6 : V3.cell? ⟨wb, 6, none⟩ = some (int i64 (zad m.L 3)) := (by rw [zab hw3]; rfl); have w7 : V3.cell? ⟨wb, 7, none⟩ = some (int i64 m.Gl.length) := (by rw [zab hw3]; rfl); have wl := zaa hw3; have p0 : V3.cell? ⟨w.heap.size, 0, none⟩ = some (int i64 kd) := (by rw [zab ho3]; rfl); have pl := zaa ho3; have HB3 := zac hb3; clear hb3 hw3 ho3))
 go_ret
 have hb3 := (ud HB3).alloc (ud HB3).size (.cells #[int i64 m.now, int i64 (zam m.L), int i64 (zca (zbu (zam m.L) c.qu)), int i64 ep, int i64 (zad m.L 1), int i64 (zad m.L 2), int i64 (zad m.L 3), int i64 m.Gl.length] 37)
 have hS3 := (ud HS2).later hb3
 have e0 : (zdy ep m.QL k).set i 0 = zdy ep m.QL k := untL_none k i hun
 rw [e0] at hS3
 exact ⟨rfl, m, Act1.same m ns, ⟨_, k, rfl, hS3, hk, ud HO, hkj, hnj⟩, (ud HB2).trans (Bel.of hb3 (Nat.le_trans hsz (ud HB2).size))⟩
end Go.Proofs.YtpbimdkclnekeaaGreat
