import Derived.Test.YtpbimdkclnekeaaGreatKInv1
import Derived.Test.YtpbimdkclnekeaaGreatKMlz4
import Derived.Deep.RegionHeld3

namespace Go.Proofs.YtpbimdkclnekeaaGreat
open Value (int)
open IntKind (i64)
open Go.RowKit Go.Maps Go.Shelf
set_option linter.unusedVariables false
def IngPost (w w' : World) (B p : Nat) (c : Cf) (ep : Int) (m : MS) (ns : List Nm) (j : Nat) : Prop := ∃ m' ns', Act1 c ep m ns m' ns' /\ Shop w' B p c ep m' ns' (j + 1) /\ Bel B w w' /\ ((m' = m /\ ns' = ns /\ c.qu < zam m.L + 1 + 2 * c.n) \/ ∃ x, ns' = ns ++ [x] /\ zam m.L < zam m'.L /\ zam m'.L <= zam m.L + 1 + 2 * c.n)
theorem knum_info : (Tryz.prog.info? 78).map (fun i => (i.zero, i.size, i.bytes)) = some (some (.agg #[int i64 0, int i64 0, .int .i32 0]), 3, 24) := by kernel_rfl
theorem al_size2 (U : World) (o : Obj) : U.heap.size <= (U.alloc o).drew.heap.size := by show U.heap.size <= (U.alloc o).heap.size; rw [zbm]; omega
theorem bel_dd {X V : World} (h : Below X.drew.heap.size X.drew V) : Below X.heap.size X V := ⟨h.os, h.tape, h.output, h.size, h.block⟩
set_option maxRecDepth 20000 in
set_option maxHeartbeats 8000000 in
theorem sing_any {w : World} {B p : Nat} {c : Cf} {ep : Int} {m : MS} {ns : List Nm} {j : Nat} (hs : Shop w B p c ep m ns j) (hc : c.ok) (hf : c.fits) (kd a b v : Int) (ha : -9223372036854775808 <= a /\ a <= 9223372036854775807) (hbb : -9223372036854775808 <= b /\ b <= 9223372036854775807) (hv : -2147483648 <= v /\ v <= 2147483647) (hj : j < 4398046511104) :
  Calls Tryz.prog 28 #[.pointer (some ⟨p, 0, none⟩), .agg #[int i64 kd, int i64 a, int i64 b, .int .i32 v]] w fun e w' => e = .returned (.bool true) /\ IngPost w w' B p c ep m ns j := by
 have hsz := hs.size
 obtain ⟨⟨sp, si, sd, sct, snv, skv, suv⟩, k, rfl, h, hk, ho, hkj, hnj⟩ := hs
 dsimp only at *
 obtain ⟨na, nc, hna⟩ := zbt h.nrow
 dsimp only at hna
 subst hna
 have hsp : B <= sp := h.lo
 have hla := hc.la
 have hqu := hc.qu
 have hn4 := hc.n4
 have hnow := ho.ok.now
 obtain ⟨r1, a1, b1, P1⟩ := zdc a 4 ha (by omega)
 obtain ⟨r2, a2, b2, P2⟩ := zdc b (c.la + 1) hbb (by omega)
 have HP1 := fun W => zac (P1 W)
 have HP2 := fun W => zac (P2 W)
 have hb0 : Below w.heap.size w (w.alloc (.cells #[int i64 kd, int i64 a, int i64 b, .int .i32 v] 33)) := (Below.refl _ _).alloc (Nat.le_refl _) _
 have q0 := zag w (.cells #[int i64 kd, int i64 a, int i64 b, .int .i32 v] 33)
 have hX := h.later hb0
 obtain ⟨-, -, -, c4, -, -, c9, -, -, -⟩ := hX.cells
 dsimp only at c4 c9
 have o1 : (w.alloc (.cells #[int i64 kd, int i64 a, int i64 b, .int .i32 v] 33)).cell? ⟨w.heap.size, 1, none⟩ = some (int i64 a) := by rw [zab q0]; rfl
 have o2 : (w.alloc (.cells #[int i64 kd, int i64 a, int i64 b, .int .i32 v] 33)).cell? ⟨w.heap.size, 2, none⟩ = some (int i64 b) := by rw [zab q0]; rfl
 have o3 : (w.alloc (.cells #[int i64 kd, int i64 a, int i64 b, .int .i32 v] 33)).cell? ⟨w.heap.size, 3, none⟩ = some (.int .i32 v) := by rw [zab q0]; rfl
 have ol := zaa q0
 have pl := hX.lt
 dsimp only at pl
 have e1 : IntKind.i64.wrap (c.la + 1) = c.la + 1 := by rw [IntKind.wrap_i64]; omega
 have e2 : IntKind.i64.wrap (m.now - r2) = m.now - r2 := by rw [IntKind.wrap_i64]; omega
 have HX := zac hX
 have HB0 := zac (Bel.of hb0 hsz)
 clear h hX hb0 q0 P1 P2
 go_enter Tryz.func28, Tryz.ntmps28
 go_wp2_with fail
 generalize (w.alloc (.cells #[int i64 kd, int i64 a, int i64 b, .int .i32 v] 33)) = X at *
 rename_i K1 hK1
 refine (fun cont : K1 ?aa ?ww => ?main) ?hc
 case main =>
  go_region_held3 (fun w' => w'.cell? ⟨w.heap.size, 1, none⟩ = some (int i64 a) /\ w'.cell? ⟨w.heap.size, 2, none⟩ = some (int i64 b) /\ w'.cell? ⟨w.heap.size, 3, none⟩ = some (.int .i32 v) /\ w'.cell? ⟨sp, 9, none⟩ = some (int i64 m.now) /\ w'.cell? ⟨sp, 4, none⟩ = some (int i64 c.la)) (go_keep) (first
   | (go_at_call 29; (first | (with_reducible refine (ud (HP1 _)).mono ?_) | (with_reducible refine (ud (HP2 _)).mono ?_)); rintro e W ⟨rfl, hw⟩; subst hw))
  all_goals exact cont
 case hc =>
  refine hK1 _ _ ?_
  clear hK1 HP1 HP2 o1 o2 o3 c4 c9
  have nx := zag X (.cells #[int i64 r1, int i64 (m.now - r2), .int .i32 v] 78)
  have hbn : Below X.heap.size X (X.alloc (.cells #[int i64 r1, int i64 (m.now - r2), .int .i32 v] 78)).drew := ((Below.refl _ _).alloc (Nat.le_refl _) _).drew
  have hnx : (X.alloc (.cells #[int i64 r1, int i64 (m.now - r2), .int .i32 v] 78)).drew.heap[X.heap.size]? = some (.cells #[int i64 r1, int i64 (m.now - r2), .int .i32 v] 78 (0, 0)) := nx
  have hSN := (ud HX).later hbn
  have hBN := (ud HB0).trans (Bel.of hbn (Nat.le_trans hsz (ud HB0).size))
  have HNM : Hid (¬ zbx si X.heap.size) := fun e => absurd ((ud HX).mill.foot_lt _ e) (by omega)
  have hnp : ¬ X.heap.size = sp := by omega
  have hnp' : ¬ sp = X.heap.size := by omega
  have hn1 : (X.alloc (.cells #[int i64 r1, int i64 (m.now - r2), .int .i32 v] 78)).drew.cell? ⟨X.heap.size, 1, none⟩ = some (int i64 (m.now - r2)) := by rw [zab hnx]; rfl
  have hnf := fun j => zax hnx j
  have hnl := zaa hnx
  generalize (X.alloc (.cells #[int i64 r1, int i64 (m.now - r2), .int .i32 v] 78)).drew = Z at *
  generalize hnb : X.heap.size = nb at *
  by_cases hneg : m.now - r2 < 0
  ·have hk9 := kept_set0' Z nb 1 (int i64 0)
   have HNB : Hid ((Z.setCell ⟨nb, 1, none⟩ (int i64 0)).heap[nb]? = some (.cells #[int i64 r1, int i64 0, .int .i32 v] 78 (0, 0))) := zcu (i := 1) hnx (int i64 0)
   have HSY := zac (hSN.kept hk9 (fun q hq e => by have := (ud HX).foot_lt q hq; omega) (fun q hq e => by have := (ud HX).mill.foot_lt q hq; omega))
   have HBY := zac (hBN.trans (Bel.set (i := 1) hnx (by decide) (by have := (ud HB0).size; omega) (int i64 0)))
   clear nx hbn hnx hSN hBN hk9
   go_wp2_with fail
   generalize (Z.setCell ⟨nb, 1, none⟩ (int i64 0)) = Y at *
   have hx1 : 0 <= r1 /\ r1 < 4 := ⟨a1, b1⟩
   have hx2 : (0 : Int) <= 0 /\ 0 <= m.now := by omega
   have hx3 : m.now - c.la <= 0 := by omega
   obtain ⟨y0, -, -, -, -, -, -, y10, -, -⟩ := (ud HSY).cells
   dsimp only at y0 y10
   have n0 : Y.cell? ⟨nb, 0, none⟩ = some (int i64 r1) := by rw [zab (ud HNB)]; rfl
   have n1 : Y.cell? ⟨nb, 1, none⟩ = some (int i64 0) := by rw [zab (ud HNB)]; rfl
   have n2 : Y.cell? ⟨nb, 2, none⟩ = some (.int .i32 v) := by rw [zab (ud HNB)]; rfl
   have nl := zaa (ud HNB)
   have yl := (ud HSY).lt
   dsimp only at yl
   have hng : ∀ q : Nat, q < c.n -> zbq m.Gl (zde c r1 (0) q) = none := fun q hq => ho.ok.not_gone hc (x := ⟨r1, 0, v⟩) hx3 (t := (q : Int)) (by omega) (by omega)
   have hu0 := ho.ok.seg.u0 hc
   have hmb := zet c m.L ⟨r1, 0, v⟩ c.n
   by_cases hroom : zam m.L + (1 + 2 * missL c m.L ⟨r1, 0, v⟩ c.n) <= c.qu
   ·have HIN := zac (ming_ok (((ud HSY).later (Below.refl _ _).drew).mill) hc r1 (0) v hx1 hx2 hx3 hnow.2 hv ⟨hu0.1, by omega⟩ ho.ok.seg.st hng hroom (by have := ho.ok.seg.len400 hc; omega) (ho.ok.small hc))
    have HO := zac ho
    clear hng ho
    refine zbd 10 (by kernel_rfl) (by kernel_rfl) ?_
    simp only [List.take_succ_cons, List.take_zero, List.drop_succ_cons, List.drop_zero]
    repeat still_step
    refine wpStill_nil ?_
    go_wp2_with (first | (go_at_call 59; refine (ud HIN).mono ?_; rintro e V ⟨rfl, hM, hK⟩; have hkm : zaj (zbx si) Y V := ((zaj.refl _ _).drew).trans (hK.mono (fun q _ e => .inr (.inl (.inr (.inr (.inl e)))))) (fun _ _ e => e); have hS2 := (ud HSY).putMill hM hkm; have z10 := (hS2.cells).2.2.2.2.2.2.2.1; dsimp only at z10; have hnb2 := hkm.heap (ud HNB) (ud HNM); have m0 : V.cell? ⟨nb, 0, none⟩ = some (int i64 r1) := (by rw [zab hnb2]; rfl); have m1 : V.cell? ⟨nb, 1, none⟩ = some (int i64 0) := (by rw [zab hnb2]; rfl); have m2 : V.cell? ⟨nb, 2, none⟩ = some (.int .i32 v) := (by rw [zab hnb2]; rfl); have nl2 := zaa hnb2; have vl := hS2.lt; dsimp only at vl; have vf := fun j => zax hS2.head j; dsimp only at vf; have HS2 := zac hS2; have HBV := zac ((ud HBY).trans (Bel.mill (ud HSY).mill hkm (Nat.le_trans hsz (ud HBY).size) (ud HSY).mlo)); clear hM hK hkm hS2 hnb2))
    have HROW := zac ((ud HS2).nrow)
    go_region_law (refine step_push rfl (.tmp 48) (.tmp 50) 40 78 3 24 rfl Tryz.underlying40 knum_info rfl (by decide) B (.slice na ns.length nc) ns.length (ns.flatMap nmV) (by simp [Act.eval]) (rowns_drew ((ud HROW).alloc _)) V.heap.size [int i64 r1, int i64 (0), .int .i32 v] 78 (0, 0) (by simp [Act.eval]) (rlast_drew V _) rfl (by simp [Value.oneCell']) ?h63 ?hby ?hbs ?_; (case h63 => (simp only [maxLen]; omega)); (case hby => omega); (case hbs => exact Nat.le_trans (Nat.le_trans hsz (ud HBV).size) (al_size2 _ _)); intro g3 cap3 w5 hown hgrow0 hat hlt3; have hk5 : zaj (fun k' => (Value.slice na ns.length nc).ownBlock = some k') V w5 := zaj.grown ((zaj.refl _ _).alloc _) (rgrown_drew hgrow0) (fun k hk _ => hk); have hp5 := hk5.heap ((ud HS2).head) (fun e => zar (ud HS2).head (ud HROW) (by decide) _ e rfl); have d10 : w5.cell? ⟨sp, 10, none⟩ = some (.slice na ns.length nc) := (by rw [zab hp5]; rfl); have df := fun j => zax hp5 j; have dl := zaa hp5; dsimp only at df dl; have HOWN := zac hown; have HK5 := zac hk5; have HAT := zac hat; clear hown hk5 hp5 hgrow0 hat)
    all_goals
     go_wp2_with fail
     go_ret
     have hS2 := ud HS2
     have hown : w5.ownsRow B 78 3 (.slice (some ⟨g3, 0, none⟩) (ns.length + 1) cap3) (ns ++ [(⟨r1, 0, v⟩ : Nm)]).length ((ns ++ [(⟨r1, 0, v⟩ : Nm)]).flatMap nmV) := by
      rw [List.length_append, List.flatMap_append]
      exact ud HOWN
     have hS5 := hS2.setNums (ud HK5) hown (fun q hq => by
      have e : g3 = q := by simpa [Value.ownBlock] using hq
      subst e
      rcases ud HAT with h | h
      ·exact .inl h
      ·right; rw [h]; exact al_size2 _ _)
     have hb5 : Bel B w w5 := (ud HBV).trans (Bel.row hS2.nrow (by decide) (ud HK5) (Nat.le_trans hsz (ud HBV).size))
     have hA : Act1 c ep m ns { m with L := addL c m.L ⟨r1, 0, v⟩ } (ns ++ [⟨r1, 0, v⟩]) := Act1.added m ns ⟨r1, 0, v⟩ hx1 hx2 hx3 hv hroom
     have hU := ((ud HO).ingest hc hf (x := ⟨r1, 0, v⟩) hx1 hx2 hx3 hv hroom).2
     refine ⟨rfl, _, _, hA, ⟨_, k, rfl, hS5, hk, hA.ok hc hf (ud HO), by omega, by simp; omega⟩, hb5.trans (Bel.set ((ud HK5).heap hS2.head (fun e => zar hS2.head hS2.nrow (by decide) _ e rfl)) (by decide) hsp _), .inr ⟨⟨r1, 0, v⟩, rfl, ?_, ?_⟩⟩
     ·show _ < zam (addL c m.L ⟨r1, 0, v⟩); omega
     ·show zam (addL c m.L ⟨r1, 0, v⟩) <= _; omega
   ·have HIN := zac (ming_full (((ud HSY).later (Below.refl _ _).drew).mill) hc r1 (0) v hx1 hx2 hx3 hnow.2 hv ⟨hu0.1, by omega⟩ ho.ok.seg.st hng (by omega))
    have HO := zac ho
    clear hng ho
    refine zbd 10 (by kernel_rfl) (by kernel_rfl) ?_
    simp only [List.take_succ_cons, List.take_zero, List.drop_succ_cons, List.drop_zero]
    repeat still_step
    refine wpStill_nil ?_
    go_wp2_with (first | (go_at_call 59; refine (ud HIN).mono ?_; rintro e V ⟨rfl, hbv⟩; have HBV := zac hbv; clear hbv))
    go_ret
    have hbv : Below Y.heap.size Y V := bel_dd (ud HBV)
    exact ⟨rfl, m, ns, Act1.same m ns, Shop.mono ⟨_, k, rfl, (ud HSY).later hbv, hk, ud HO, hkj, hnj⟩ (Nat.le_succ j), (ud HBY).trans (Bel.of hbv (Nat.le_trans hsz (ud HBY).size)), .inl ⟨rfl, rfl, by omega⟩⟩
  ·have hnegd : decide (m.now - r2 < 0) = false := by simpa using hneg
   have HNB := zac hnx
   have HSY := zac hSN
   have HBY := zac hBN
   clear nx hbn hnx hSN hBN
   go_wp2_with fail
   generalize Z = Y at *
   have hx1 : 0 <= r1 /\ r1 < 4 := ⟨a1, b1⟩
   have hx2 : (0 : Int) <= (m.now - r2) /\ (m.now - r2) <= m.now := by omega
   have hx3 : m.now - c.la <= (m.now - r2) := by omega
   obtain ⟨y0, -, -, -, -, -, -, y10, -, -⟩ := (ud HSY).cells
   dsimp only at y0 y10
   have n0 : Y.cell? ⟨nb, 0, none⟩ = some (int i64 r1) := by rw [zab (ud HNB)]; rfl
   have n1 : Y.cell? ⟨nb, 1, none⟩ = some (int i64 (m.now - r2)) := by rw [zab (ud HNB)]; rfl
   have n2 : Y.cell? ⟨nb, 2, none⟩ = some (.int .i32 v) := by rw [zab (ud HNB)]; rfl
   have nl := zaa (ud HNB)
   have yl := (ud HSY).lt
   dsimp only at yl
   have hng : ∀ q : Nat, q < c.n -> zbq m.Gl (zde c r1 ((m.now - r2)) q) = none := fun q hq => ho.ok.not_gone hc (x := ⟨r1, (m.now - r2), v⟩) hx3 (t := (q : Int)) (by omega) (by omega)
   have hu0 := ho.ok.seg.u0 hc
   have hmb := zet c m.L ⟨r1, (m.now - r2), v⟩ c.n
   by_cases hroom : zam m.L + (1 + 2 * missL c m.L ⟨r1, (m.now - r2), v⟩ c.n) <= c.qu
   ·have HIN := zac (ming_ok (((ud HSY).later (Below.refl _ _).drew).mill) hc r1 ((m.now - r2)) v hx1 hx2 hx3 hnow.2 hv ⟨hu0.1, by omega⟩ ho.ok.seg.st hng hroom (by have := ho.ok.seg.len400 hc; omega) (ho.ok.small hc))
    have HO := zac ho
    clear hng ho
    refine zbd 10 (by kernel_rfl) (by kernel_rfl) ?_
    simp only [List.take_succ_cons, List.take_zero, List.drop_succ_cons, List.drop_zero]
    repeat still_step
    refine wpStill_nil ?_
    go_wp2_with (first | (go_at_call 59; refine (ud HIN).mono ?_; rintro e V ⟨rfl, hM, hK⟩; have hkm : zaj (zbx si) Y V := ((zaj.refl _ _).drew).trans (hK.mono (fun q _ e => .inr (.inl (.inr (.inr (.inl e)))))) (fun _ _ e => e); have hS2 := (ud HSY).putMill hM hkm; have z10 := (hS2.cells).2.2.2.2.2.2.2.1; dsimp only at z10; have hnb2 := hkm.heap (ud HNB) (ud HNM); have m0 : V.cell? ⟨nb, 0, none⟩ = some (int i64 r1) := (by rw [zab hnb2]; rfl); have m1 : V.cell? ⟨nb, 1, none⟩ = some (int i64 (m.now - r2)) := (by rw [zab hnb2]; rfl); have m2 : V.cell? ⟨nb, 2, none⟩ = some (.int .i32 v) := (by rw [zab hnb2]; rfl); have nl2 := zaa hnb2; have vl := hS2.lt; dsimp only at vl; have vf := fun j => zax hS2.head j; dsimp only at vf; have HS2 := zac hS2; have HBV := zac ((ud HBY).trans (Bel.mill (ud HSY).mill hkm (Nat.le_trans hsz (ud HBY).size) (ud HSY).mlo)); clear hM hK hkm hS2 hnb2))
    have HROW := zac ((ud HS2).nrow)
    go_region_law (refine step_push rfl (.tmp 48) (.tmp 50) 40 78 3 24 rfl Tryz.underlying40 knum_info rfl (by decide) B (.slice na ns.length nc) ns.length (ns.flatMap nmV) (by simp [Act.eval]) (rowns_drew ((ud HROW).alloc _)) V.heap.size [int i64 r1, int i64 ((m.now - r2)), .int .i32 v] 78 (0, 0) (by simp [Act.eval]) (rlast_drew V _) rfl (by simp [Value.oneCell']) ?h63 ?hby ?hbs ?_; (case h63 => (simp only [maxLen]; omega)); (case hby => omega); (case hbs => exact Nat.le_trans (Nat.le_trans hsz (ud HBV).size) (al_size2 _ _)); intro g3 cap3 w5 hown hgrow0 hat hlt3; have hk5 : zaj (fun k' => (Value.slice na ns.length nc).ownBlock = some k') V w5 := zaj.grown ((zaj.refl _ _).alloc _) (rgrown_drew hgrow0) (fun k hk _ => hk); have hp5 := hk5.heap ((ud HS2).head) (fun e => zar (ud HS2).head (ud HROW) (by decide) _ e rfl); have d10 : w5.cell? ⟨sp, 10, none⟩ = some (.slice na ns.length nc) := (by rw [zab hp5]; rfl); have df := fun j => zax hp5 j; have dl := zaa hp5; dsimp only at df dl; have HOWN := zac hown; have HK5 := zac hk5; have HAT := zac hat; clear hown hk5 hp5 hgrow0 hat)
    all_goals
     go_wp2_with fail
     go_ret
     have hS2 := ud HS2
     have hown : w5.ownsRow B 78 3 (.slice (some ⟨g3, 0, none⟩) (ns.length + 1) cap3) (ns ++ [(⟨r1, (m.now - r2), v⟩ : Nm)]).length ((ns ++ [(⟨r1, (m.now - r2), v⟩ : Nm)]).flatMap nmV) := by
      rw [List.length_append, List.flatMap_append]
      exact ud HOWN
     have hS5 := hS2.setNums (ud HK5) hown (fun q hq => by
      have e : g3 = q := by simpa [Value.ownBlock] using hq
      subst e
      rcases ud HAT with h | h
      ·exact .inl h
      ·right; rw [h]; exact al_size2 _ _)
     have hb5 : Bel B w w5 := (ud HBV).trans (Bel.row hS2.nrow (by decide) (ud HK5) (Nat.le_trans hsz (ud HBV).size))
     have hA : Act1 c ep m ns { m with L := addL c m.L ⟨r1, (m.now - r2), v⟩ } (ns ++ [⟨r1, (m.now - r2), v⟩]) := Act1.added m ns ⟨r1, (m.now - r2), v⟩ hx1 hx2 hx3 hv hroom
     have hU := ((ud HO).ingest hc hf (x := ⟨r1, (m.now - r2), v⟩) hx1 hx2 hx3 hv hroom).2
     refine ⟨rfl, _, _, hA, ⟨_, k, rfl, hS5, hk, hA.ok hc hf (ud HO), by omega, by simp; omega⟩, hb5.trans (Bel.set ((ud HK5).heap hS2.head (fun e => zar hS2.head hS2.nrow (by decide) _ e rfl)) (by decide) hsp _), .inr ⟨⟨r1, (m.now - r2), v⟩, rfl, ?_, ?_⟩⟩
     ·show _ < zam (addL c m.L ⟨r1, (m.now - r2), v⟩); omega
     ·show zam (addL c m.L ⟨r1, (m.now - r2), v⟩) <= _; omega
   ·have HIN := zac (ming_full (((ud HSY).later (Below.refl _ _).drew).mill) hc r1 ((m.now - r2)) v hx1 hx2 hx3 hnow.2 hv ⟨hu0.1, by omega⟩ ho.ok.seg.st hng (by omega))
    have HO := zac ho
    clear hng ho
    refine zbd 10 (by kernel_rfl) (by kernel_rfl) ?_
    simp only [List.take_succ_cons, List.take_zero, List.drop_succ_cons, List.drop_zero]
    repeat still_step
    refine wpStill_nil ?_
    go_wp2_with (first | (go_at_call 59; refine (ud HIN).mono ?_; rintro e V ⟨rfl, hbv⟩; have HBV := zac hbv; clear hbv))
    go_ret
    have hbv : Below Y.heap.size Y V := bel_dd (ud HBV)
    exact ⟨rfl, m, ns, Act1.same m ns, Shop.mono ⟨_, k, rfl, (ud HSY).later hbv, hk, ud HO, hkj, hnj⟩ (Nat.le_succ j), (ud HBY).trans (Bel.of hbv (Nat.le_trans hsz (ud HBY).size)), .inl ⟨rfl, rfl, by omega⟩⟩
end Go.Proofs.YtpbimdkclnekeaaGreat
