import Derived.Test.YtpbimdkclnekeaaGreatKTel0

namespace Go.Proofs.YtpbimdkclnekeaaGreat
open Value (int)
open IntKind (i64)
open Go.RowKit Go.Maps Go.Shelf
open Go.ChangeMaps (setBlock)
set_option linter.unusedVariables false
set_option maxRecDepth 20000 in
set_option maxHeartbeats 4000000 in
theorem commit_no {w : World} {i : Ids} {c : Cf} {ep : Int} {m : MS} (h : zat w i c ep m) (t : Tok) (ht : t.wf) (hg : zbq m.QL t = none) :
  Calls Tryz.prog 18 #[.pointer (some ⟨i.x, 0, none⟩), .agg #[int i64 t.ep, int i64 t.num]] w fun e w' => e = .returned (int i64 8) /\ Below w.heap.size w w' := by
 have hba : Below w.heap.size w (w.alloc (.cells #[int i64 t.ep, int i64 t.num] 49)) := (Below.refl _ _).alloc (Nat.le_refl _) _
 have q0 := zag w (.cells #[int i64 t.ep, int i64 t.num] 49)
 have qz := zbm w (.cells #[int i64 t.ep, int i64 t.num] 49)
 have hX := h.later hba
 obtain ⟨-, -, -, -, -, -, -, -, c8, -, c10⟩ := hX.cells
 have hxl := hX.lt
 have hql := zaa q0
 have k0 : (w.alloc (.cells #[int i64 t.ep, int i64 t.num] 49)).cell? ⟨w.heap.size, 0, none⟩ = some (int i64 t.ep) := by rw [zab q0]; rfl
 have k1 : (w.alloc (.cells #[int i64 t.ep, int i64 t.num] 49)).cell? ⟨w.heap.size, 1, none⟩ = some (int i64 t.num) := by rw [zab q0]; rfl
 have hkw : (⟨(zeh (zbq m.QL t)).kd, (zeh (zbq m.QL t)).s⟩ : Jk).wf := by rw [hg]; refine ⟨?_, ?_, ?_, ?_⟩ <;> (unfold zdg zeh; simp)
 have HL := fun W hW => zac (leasedT_any ((h.later (w' := W) hW).board) t ht hkw)
 simp only [hg, Option.isSome_none] at HL
 generalize jobV (zbq m.TL ⟨(zeh none).kd, (zeh none).s⟩) = JV at HL
 have HBA := zac hba
 have QZ := zac qz
 clear h hX hba q0 qz hkw hg
 go_enter Tryz.func18, Tryz.ntmps18
 go_wp2_with fail
 have p1 : w.heap.size < w.heap.size + 1 := by omega
 have p2 : i.x < w.heap.size + 1 := by have := ud QZ; omega
 generalize (w.alloc (.cells #[int i64 t.ep, int i64 t.num] 49)) = X at *
 generalize hN : w.heap.size + 1 = N at *
 have hne : Nonempty (zbg N X) := zbg.some _ _
 have hlc := fun (u : zbg N X) b o h => u.cell b o h
 have hNX : N <= X.heap.size := by rw [ud QZ]; exact Nat.le_refl _
 have HNX := zac hNX
 have HNL : Hid (w.heap.size <= N) := by show w.heap.size <= N; omega
 have HN := zac hN
 clear hNX hN
 refine zak N (by kernel_rfl) (by kernel_rfl) ?_
 repeat (go_big_quiet_step (first
  | (go_at_call 41; exact Calls.later (ud HNX) (ud (HL _ ((ud HBA).trans (Below.mono (Subtype.property _) (ud HNL))))))))
 refine wpQuiet_nil ?_
 rintro ⟨w1, hb1⟩
 clear hlc hne
 dsimp only
 go_wp2_with fail
 go_ret
 exact ⟨rfl, (ud HBA).trans (hb1.mono (ud HNL))⟩
set_option maxRecDepth 20000 in
set_option maxHeartbeats 4000000 in
theorem fail_no {w : World} {i : Ids} {c : Cf} {ep : Int} {m : MS} (h : zat w i c ep m) (t : Tok) (ht : t.wf) (hg : zbq m.QL t = none) :
  Calls Tryz.prog 19 #[.pointer (some ⟨i.x, 0, none⟩), .agg #[int i64 t.ep, int i64 t.num]] w fun e w' => e = .returned (int i64 8) /\ Below w.heap.size w w' := by
 have hba : Below w.heap.size w (w.alloc (.cells #[int i64 t.ep, int i64 t.num] 49)) := (Below.refl _ _).alloc (Nat.le_refl _) _
 have q0 := zag w (.cells #[int i64 t.ep, int i64 t.num] 49)
 have qz := zbm w (.cells #[int i64 t.ep, int i64 t.num] 49)
 have hX := h.later hba
 obtain ⟨-, -, -, -, -, -, -, -, c8, -, c10⟩ := hX.cells
 have hxl := hX.lt
 have hql := zaa q0
 have k0 : (w.alloc (.cells #[int i64 t.ep, int i64 t.num] 49)).cell? ⟨w.heap.size, 0, none⟩ = some (int i64 t.ep) := by rw [zab q0]; rfl
 have k1 : (w.alloc (.cells #[int i64 t.ep, int i64 t.num] 49)).cell? ⟨w.heap.size, 1, none⟩ = some (int i64 t.num) := by rw [zab q0]; rfl
 have hkw : (⟨(zeh (zbq m.QL t)).kd, (zeh (zbq m.QL t)).s⟩ : Jk).wf := by rw [hg]; refine ⟨?_, ?_, ?_, ?_⟩ <;> (unfold zdg zeh; simp)
 have HL := fun W hW => zac (leasedT_any ((h.later (w' := W) hW).board) t ht hkw)
 simp only [hg, Option.isSome_none] at HL
 generalize jobV (zbq m.TL ⟨(zeh none).kd, (zeh none).s⟩) = JV at HL
 have HBA := zac hba
 have QZ := zac qz
 clear h hX hba q0 qz hkw hg
 go_enter Tryz.func19, Tryz.ntmps19
 go_wp2_with fail
 have p1 : w.heap.size < w.heap.size + 1 := by omega
 have p2 : i.x < w.heap.size + 1 := by have := ud QZ; omega
 generalize (w.alloc (.cells #[int i64 t.ep, int i64 t.num] 49)) = X at *
 generalize hN : w.heap.size + 1 = N at *
 have hne : Nonempty (zbg N X) := zbg.some _ _
 have hlc := fun (u : zbg N X) b o h => u.cell b o h
 have hNX : N <= X.heap.size := by rw [ud QZ]; exact Nat.le_refl _
 have HNX := zac hNX
 have HNL : Hid (w.heap.size <= N) := by show w.heap.size <= N; omega
 have HN := zac hN
 clear hNX hN
 refine zak N (by kernel_rfl) (by kernel_rfl) ?_
 repeat (go_big_quiet_step (first
  | (go_at_call 41; exact Calls.later (ud HNX) (ud (HL _ ((ud HBA).trans (Below.mono (Subtype.property _) (ud HNL))))))))
 refine wpQuiet_nil ?_
 rintro ⟨w1, hb1⟩
 clear hlc hne
 dsimp only
 go_wp2_with fail
 go_ret
 exact ⟨rfl, (ud HBA).trans (hb1.mono (ud HNL))⟩
set_option maxRecDepth 20000 in
set_option maxHeartbeats 4000000 in
theorem fail_yes {w : World} {i : Ids} {c : Cf} {ep : Int} {m : MS} (h : zat w i c ep m) (t : Tok) (ht : t.wf) {g : Lse} (hg : zbq m.QL t = some g) (hj : g.job.wf) {x : Tsk} (hx : zbq m.TL g.job = some x) (hnow : 0 <= m.now /\ m.now <= 100000) (htr : 0 <= x.tries /\ x.tries <= 1000000) (htl : m.TL.length <= 50000) :
  Calls Tryz.prog 19 #[.pointer (some ⟨i.x, 0, none⟩), .agg #[int i64 t.ep, int i64 t.num]] w fun e w' => e = .returned (int i64 0) /\ zat w' i c ep { m with TL := zdz m.TL g.job (x.failed m.now), QL := zby m.QL t } /\ zaj (zbx i) w w' := by
 have hba : Below w.heap.size w (w.alloc (.cells #[int i64 t.ep, int i64 t.num] 49)) := (Below.refl _ _).alloc (Nat.le_refl _) _
 have q0 := zag w (.cells #[int i64 t.ep, int i64 t.num] 49)
 have qz := zbm w (.cells #[int i64 t.ep, int i64 t.num] 49)
 have hX := h.later hba
 obtain ⟨-, -, -, -, -, -, -, -, c8, -, c10⟩ := hX.cells
 have hxl := hX.lt
 have hql := zaa q0
 have k0 : (w.alloc (.cells #[int i64 t.ep, int i64 t.num] 49)).cell? ⟨w.heap.size, 0, none⟩ = some (int i64 t.ep) := by rw [zab q0]; rfl
 have k1 : (w.alloc (.cells #[int i64 t.ep, int i64 t.num] 49)).cell? ⟨w.heap.size, 1, none⟩ = some (int i64 t.num) := by rw [zab q0]; rfl
 have hkw : (⟨(zeh (zbq m.QL t)).kd, (zeh (zbq m.QL t)).s⟩ : Jk).wf := by rw [hg]; exact hj
 have HL := fun W hW => zac (leasedT_any ((h.later (w' := W) hW).board) t ht hkw)
 generalize jobV (zbq m.TL ⟨(zeh (zbq m.QL t)).kd, (zeh (zbq m.QL t)).s⟩) = JV at HL
 simp only [hg, Option.isSome_some] at HL
 obtain ⟨es, clk, hqe, hqm⟩ := h.board.leases
 have HBA := zac hba
 have QZ := zac qz
 have H := zac h
 have Q0 := zac q0
 have HG := zac hg
 have HX9 := zac hx
 have HQE := zac (And.intro hqe hqm)
 clear h hX hba q0 qz hkw hg hx hqe hqm
 go_enter Tryz.func19, Tryz.ntmps19
 go_wp2_with fail
 have p1 : w.heap.size < w.heap.size + 1 := by omega
 have p2 : i.x < w.heap.size + 1 := by have := ud QZ; omega
 generalize (w.alloc (.cells #[int i64 t.ep, int i64 t.num] 49)) = X at *
 generalize hN : w.heap.size + 1 = N at *
 have hne : Nonempty (zbg N X) := zbg.some _ _
 have hlc := fun (u : zbg N X) b o h => u.cell b o h
 have hNX : N <= X.heap.size := by rw [ud QZ]; exact Nat.le_refl _
 have HNX := zac hNX
 have HNL : Hid (w.heap.size <= N) := by show w.heap.size <= N; omega
 have HN := zac hN
 clear hNX hN
 refine zak N (by kernel_rfl) (by kernel_rfl) ?_
 repeat (go_big_quiet_step (first
  | (go_at_call 41; exact Calls.later (ud HNX) (ud (HL _ ((ud HBA).trans (Below.mono (Subtype.property _) (ud HNL))))))))
 refine wpQuiet_nil ?_
 rintro ⟨w1, hb1⟩
 clear hlc hne
 dsimp only
 have hb2 := (ud HBA).trans (hb1.mono (ud HNL))
 have HM1 := zac ((ud H).later hb2)
 have HB2 := zac hb2
 have hq1 := (hb1.block _ (show w.heap.size < N by have := ud HN; omega)).trans (ud Q0)
 obtain ⟨-, -, -, -, -, -, -, -, e8, -, e10⟩ := (ud HM1).cells
 have t0 : w1.cell? ⟨w.heap.size, 0, none⟩ = some (int i64 t.ep) := by rw [zab hq1]; rfl
 have t1 : w1.cell? ⟨w.heap.size, 1, none⟩ = some (int i64 t.num) := by rw [zab hq1]; rfl
 have hql1 := zaa hq1
 have hxl1 := (ud HM1).lt
 have HFA := zac (fail_any (((ud HM1).later (Below.refl _ _).drew).board) t ht (ud HG) hj (ud HX9) m.now hnow ⟨htr.1, by omega⟩ (by omega) ((hb2.block _ (zaa (ud HQE).1)).trans (ud HQE).1) (ud HQE).2)
 clear k0 k1 c8 c10 hb1 hb2 hq1 HL
 go_wp2_with fail
 refine zbd 9 (by kernel_rfl) (by kernel_rfl) ?_
 simp only [List.take_succ_cons, List.take_zero, List.drop_succ_cons, List.drop_zero]
 repeat still_step
 refine wpStill_nil ?_
 go_wp2_with (first | (go_at_call 45; refine (ud HFA).mono ?_; rintro e V2 ⟨rfl, hB2, hK2, -⟩; have HV2 := zac hB2; have HK2 := zac hK2; clear hB2 hK2))
 go_ret
 have hkb : zaj (bfoot i.b i.tb i.qb) w1 V2 := ((zaj.refl (bfoot i.b i.tb i.qb) w1).drew).trans ((ud HK2).mono (fun k _ e => .inr e)) (fun _ _ e => e)
 have hM3 := (ud HM1).putBoard (ud HV2) hkb
 exact ⟨rfl, hM3, (zaj.of_below (f := zbx i) (ud HB2)).trans (hkb.mono (fun q _ e => .inr (.inr e))) (fun _ _ e => e)⟩
def zca (b : Bool) : Int := match b with | true => 1 | false => 0
theorem row8s {w : World} {g : Nat} {a0 a1 a2 a3 a4 a5 a6 a7 : Value} {t : TypeId} {fr : Nat × Nat} (h : w.heap[g]? = some (.cells #[a0, a1, a2, a3, a4, a5, a6, a7] t fr)) (b0 b1 b2 b3 b4 b5 b6 b7 : Value) : ((((((((w.setCell ⟨g, 0, none⟩ b0).setCell ⟨g, 1, none⟩ b1).setCell ⟨g, 2, none⟩ b2).setCell ⟨g, 3, none⟩ b3).setCell ⟨g, 4, none⟩ b4).setCell ⟨g, 5, none⟩ b5).setCell ⟨g, 6, none⟩ b6).setCell ⟨g, 7, none⟩ b7).heap[g]? = some (.cells #[b0, b1, b2, b3, b4, b5, b6, b7] t fr) := by
 have h0 : (w.setCell ⟨g, 0, none⟩ b0).heap[g]? = some (.cells #[b0, a1, a2, a3, a4, a5, a6, a7] t fr) := zcu (i := 0) h b0
 have h1 : ((w.setCell ⟨g, 0, none⟩ b0).setCell ⟨g, 1, none⟩ b1).heap[g]? = some (.cells #[b0, b1, a2, a3, a4, a5, a6, a7] t fr) := zcu (i := 1) h0 b1
 have h2 : (((w.setCell ⟨g, 0, none⟩ b0).setCell ⟨g, 1, none⟩ b1).setCell ⟨g, 2, none⟩ b2).heap[g]? = some (.cells #[b0, b1, b2, a3, a4, a5, a6, a7] t fr) := zcu (i := 2) h1 b2
 have h3 : ((((w.setCell ⟨g, 0, none⟩ b0).setCell ⟨g, 1, none⟩ b1).setCell ⟨g, 2, none⟩ b2).setCell ⟨g, 3, none⟩ b3).heap[g]? = some (.cells #[b0, b1, b2, b3, a4, a5, a6, a7] t fr) := zcu (i := 3) h2 b3
 have h4 : (((((w.setCell ⟨g, 0, none⟩ b0).setCell ⟨g, 1, none⟩ b1).setCell ⟨g, 2, none⟩ b2).setCell ⟨g, 3, none⟩ b3).setCell ⟨g, 4, none⟩ b4).heap[g]? = some (.cells #[b0, b1, b2, b3, b4, a5, a6, a7] t fr) := zcu (i := 4) h3 b4
 have h5 : ((((((w.setCell ⟨g, 0, none⟩ b0).setCell ⟨g, 1, none⟩ b1).setCell ⟨g, 2, none⟩ b2).setCell ⟨g, 3, none⟩ b3).setCell ⟨g, 4, none⟩ b4).setCell ⟨g, 5, none⟩ b5).heap[g]? = some (.cells #[b0, b1, b2, b3, b4, b5, a6, a7] t fr) := zcu (i := 5) h4 b5
 have h6 : (((((((w.setCell ⟨g, 0, none⟩ b0).setCell ⟨g, 1, none⟩ b1).setCell ⟨g, 2, none⟩ b2).setCell ⟨g, 3, none⟩ b3).setCell ⟨g, 4, none⟩ b4).setCell ⟨g, 5, none⟩ b5).setCell ⟨g, 6, none⟩ b6).heap[g]? = some (.cells #[b0, b1, b2, b3, b4, b5, b6, a7] t fr) := zcu (i := 6) h5 b6
 have h7 : ((((((((w.setCell ⟨g, 0, none⟩ b0).setCell ⟨g, 1, none⟩ b1).setCell ⟨g, 2, none⟩ b2).setCell ⟨g, 3, none⟩ b3).setCell ⟨g, 4, none⟩ b4).setCell ⟨g, 5, none⟩ b5).setCell ⟨g, 6, none⟩ b6).setCell ⟨g, 7, none⟩ b7).heap[g]? = some (.cells #[b0, b1, b2, b3, b4, b5, b6, b7] t fr) := zcu (i := 7) h6 b7
 exact h7
theorem below8s {B : Nat} {w : World} {g : Nat} (hg : B <= g) (b0 b1 b2 b3 b4 b5 b6 b7 : Value) : Below B w ((((((((w.setCell ⟨g, 0, none⟩ b0).setCell ⟨g, 1, none⟩ b1).setCell ⟨g, 2, none⟩ b2).setCell ⟨g, 3, none⟩ b3).setCell ⟨g, 4, none⟩ b4).setCell ⟨g, 5, none⟩ b5).setCell ⟨g, 6, none⟩ b6).setCell ⟨g, 7, none⟩ b7) := (((((((((Below.refl _ _).setCell (p := ⟨g, 0, none⟩) hg b0).setCell (p := ⟨g, 1, none⟩) hg b1).setCell (p := ⟨g, 2, none⟩) hg b2).setCell (p := ⟨g, 3, none⟩) hg b3).setCell (p := ⟨g, 4, none⟩) hg b4).setCell (p := ⟨g, 5, none⟩) hg b5).setCell (p := ⟨g, 6, none⟩) hg b6).setCell (p := ⟨g, 7, none⟩) hg b7)
theorem z8 {w : World} {g : Nat} {a0 a1 a2 a3 a4 a5 a6 a7 : Value} {t : TypeId} {fr : Nat × Nat} (h : w.heap[g]? = some (.cells #[a0, a1, a2, a3, a4, a5, a6, a7] t fr)) : w.cell? ⟨g, 0, none⟩ = some a0 /\ w.cell? ⟨g, 1, none⟩ = some a1 /\ w.cell? ⟨g, 2, none⟩ = some a2 /\ w.cell? ⟨g, 3, none⟩ = some a3 /\ w.cell? ⟨g, 4, none⟩ = some a4 /\ w.cell? ⟨g, 5, none⟩ = some a5 /\ w.cell? ⟨g, 6, none⟩ = some a6 /\ w.cell? ⟨g, 7, none⟩ = some a7 := by
 refine ⟨?_, ?_, ?_, ?_, ?_, ?_, ?_, ?_⟩ <;> rw [zab h] <;> rfl
theorem bel_fin {X V : World} (h : Below X.heap.size X V) (o : Obj) : Below X.heap.size X (V.alloc o) := h.alloc h.size o
theorem bel_set {X V : World} (h : Below X.heap.size X V) {g : Nat} (hg : X.heap.size <= g) (b0 b1 b2 b3 b4 b5 b6 b7 : Value) : Below X.heap.size X ((((((((V.setCell ⟨g, 0, none⟩ b0).setCell ⟨g, 1, none⟩ b1).setCell ⟨g, 2, none⟩ b2).setCell ⟨g, 3, none⟩ b3).setCell ⟨g, 4, none⟩ b4).setCell ⟨g, 5, none⟩ b5).setCell ⟨g, 6, none⟩ b6).setCell ⟨g, 7, none⟩ b7) := h.trans (below8s hg b0 b1 b2 b3 b4 b5 b6 b7)
set_option maxRecDepth 20000 in
set_option maxHeartbeats 20000000 in
theorem zdj {w : World} {i : Ids} {c : Cf} {ep : Int} {m : MS} (h : zat w i c ep m) (hc : c.ok) (hu : 0 <= zam m.L /\ zam m.L <= 1000) (hlen : m.L.length <= 100000) :
  Calls Tryz.prog 13 #[.pointer (some ⟨i.x, 0, none⟩)] w fun e w' => e = .returned (.agg #[int i64 m.now, int i64 (zam m.L), int i64 (zca (zbu (zam m.L) c.qu)), int i64 ep, int i64 (zad m.L 1), int i64 (zad m.L 2), int i64 (zad m.L 3), int i64 m.Gl.length]) /\ Below w.heap.size w w' := by
 have hb0 : Below w.heap.size w (w.alloc (.cells #[int i64 0, int i64 0, int i64 0, int i64 0, int i64 0, int i64 0, int i64 0, int i64 0] 37)) := (Below.refl _ _).alloc (Nat.le_refl _) _
 have q0 := zag w (.cells #[int i64 0, int i64 0, int i64 0, int i64 0, int i64 0, int i64 0, int i64 0, int i64 0] 37)
 have qz := zbm w (.cells #[int i64 0, int i64 0, int i64 0, int i64 0, int i64 0, int i64 0, int i64 0, int i64 0] 37)
 have hX := h.later hb0
 obtain ⟨-, -, -, -, -, -, -, x7_0, x8_0, x9_0, -⟩ := hX.cells
 have hx0 := hX.lt
 have HU : ∀ W, Below (w.alloc (.cells #[int i64 0, int i64 0, int i64 0, int i64 0, int i64 0, int i64 0, int i64 0, int i64 0] 37)).heap.size (w.alloc (.cells #[int i64 0, int i64 0, int i64 0, int i64 0, int i64 0, int i64 0, int i64 0, int i64 0] 37)) W -> Hid (Calls Tryz.prog 33 #[.pointer (some ⟨i.s, 0, none⟩)] W fun e w' => e = .returned (int i64 (zam m.L)) /\ Below W.heap.size W w') := fun W hW => pused_any ((hX.later hW).set) (by unfold zdg; omega)
 have HC1 : ∀ W, Below (w.alloc (.cells #[int i64 0, int i64 0, int i64 0, int i64 0, int i64 0, int i64 0, int i64 0, int i64 0] 37)).heap.size (w.alloc (.cells #[int i64 0, int i64 0, int i64 0, int i64 0, int i64 0, int i64 0, int i64 0, int i64 0] 37)) W -> Hid (Calls Tryz.prog 34 #[.pointer (some ⟨i.s, 0, none⟩), int i64 1] W fun e w' => e = .returned (int i64 (zad m.L 1)) /\ Below W.heap.size W w') := fun W hW => pcount_any ((hX.later hW).set) 1 (by decide) hlen
 have HC2 : ∀ W, Below (w.alloc (.cells #[int i64 0, int i64 0, int i64 0, int i64 0, int i64 0, int i64 0, int i64 0, int i64 0] 37)).heap.size (w.alloc (.cells #[int i64 0, int i64 0, int i64 0, int i64 0, int i64 0, int i64 0, int i64 0, int i64 0] 37)) W -> Hid (Calls Tryz.prog 34 #[.pointer (some ⟨i.s, 0, none⟩), int i64 2] W fun e w' => e = .returned (int i64 (zad m.L 2)) /\ Below W.heap.size W w') := fun W hW => pcount_any ((hX.later hW).set) 2 (by decide) hlen
 have HC3 : ∀ W, Below (w.alloc (.cells #[int i64 0, int i64 0, int i64 0, int i64 0, int i64 0, int i64 0, int i64 0, int i64 0] 37)).heap.size (w.alloc (.cells #[int i64 0, int i64 0, int i64 0, int i64 0, int i64 0, int i64 0, int i64 0, int i64 0] 37)) W -> Hid (Calls Tryz.prog 34 #[.pointer (some ⟨i.s, 0, none⟩), int i64 3] W fun e w' => e = .returned (int i64 (zad m.L 3)) /\ Below W.heap.size W w') := fun W hW => pcount_any ((hX.later hW).set) 3 (by decide) hlen
 have HC4 : ∀ W, Below (w.alloc (.cells #[int i64 0, int i64 0, int i64 0, int i64 0, int i64 0, int i64 0, int i64 0, int i64 0] 37)).heap.size (w.alloc (.cells #[int i64 0, int i64 0, int i64 0, int i64 0, int i64 0, int i64 0, int i64 0, int i64 0] 37)) W -> Hid (Calls Tryz.prog 34 #[.pointer (some ⟨i.s, 0, none⟩), int i64 4] W fun e w' => e = .returned (int i64 m.Gl.length) /\ Below W.heap.size W w') := fun W hW => pgone_any ((hX.later hW).set)
 have HT : ∀ W, Below (w.alloc (.cells #[int i64 0, int i64 0, int i64 0, int i64 0, int i64 0, int i64 0, int i64 0, int i64 0] 37)).heap.size (w.alloc (.cells #[int i64 0, int i64 0, int i64 0, int i64 0, int i64 0, int i64 0, int i64 0, int i64 0] 37)) W -> Hid (Calls Tryz.prog 35 #[.pointer (some ⟨i.x, 0, none⟩)] W fun e w' => e = .returned (.bool (zbu (zam m.L) c.qu)) /\ Below W.heap.size W w') := fun W hW => tightM_any (hX.later hW) hc hu
 generalize zam m.L = U at *
 generalize zad m.L 1 = A1 at *
 generalize zad m.L 2 = A2 at *
 generalize zad m.L 3 = A3 at *
 generalize (m.Gl.length : Int) = G at *
 generalize zbu U c.qu = tt at *
 have HB0 := zac hb0
 have HRES := zac q0
 have hrl : w.heap.size < (w.alloc (.cells #[int i64 0, int i64 0, int i64 0, int i64 0, int i64 0, int i64 0, int i64 0, int i64 0] 37)).heap.size := by rw [qz]; omega
 clear h hX hb0 q0 qz hu hlen
 go_enter Tryz.func13, Tryz.ntmps13
 go_wp2_with fail
 generalize (w.alloc (.cells #[int i64 0, int i64 0, int i64 0, int i64 0, int i64 0, int i64 0, int i64 0, int i64 0] 37)) = V0 at *
 have HV0 : Hid (Below V0.heap.size V0 V0) := Below.refl _ _
 rename_i Q1 K1 hK1
 have HR : Hid (∀ (ob : Nat) (u4 u5 u6 u7 u8 u9 u10 u11 u12 u13 u14 u15 u16 u17 u18 u19 u20 u21 u22 u23 u24 u25 u26 u27 u28 u29 u30 u31 u32 u33 u34 u35 u36 u37 : Value) (Y : World), Y.heap[ob]? = some (.cells #[int i64 m.now, int i64 U, int i64 0, int i64 ep, int i64 A1, int i64 A2, int i64 A3, int i64 G] 37 (0, 0)) -> Below V0.heap.size V0 Y -> V0.heap.size <= ob -> K1 { tmps := #[.pointer (some ⟨i.x, 0, none⟩), undef, .pointer (some ⟨w.heap.size, 0, none⟩), .pointer (some ⟨ob, 0, none⟩), u4, u5, u6, u7, u8, u9, u10, u11, u12, u13, u14, u15, u16, u17, u18, u19, u20, u21, u22, u23, u24, u25, u26, u27, u28, u29, u30, u31, u32, u33, u34, u35, u36, u37, undef, undef, undef, undef], defers := [] } Y) := by
  show ∀ (ob : Nat) (u4 u5 u6 u7 u8 u9 u10 u11 u12 u13 u14 u15 u16 u17 u18 u19 u20 u21 u22 u23 u24 u25 u26 u27 u28 u29 u30 u31 u32 u33 u34 u35 u36 u37 : Value) (Y : World), Y.heap[ob]? = some (.cells #[int i64 m.now, int i64 U, int i64 0, int i64 ep, int i64 A1, int i64 A2, int i64 A3, int i64 G] 37 (0, 0)) -> Below V0.heap.size V0 Y -> V0.heap.size <= ob -> K1 { tmps := #[.pointer (some ⟨i.x, 0, none⟩), undef, .pointer (some ⟨w.heap.size, 0, none⟩), .pointer (some ⟨ob, 0, none⟩), u4, u5, u6, u7, u8, u9, u10, u11, u12, u13, u14, u15, u16, u17, u18, u19, u20, u21, u22, u23, u24, u25, u26, u27, u28, u29, u30, u31, u32, u33, u34, u35, u36, u37, undef, undef, undef, undef], defers := [] } Y
  intro ob u4 u5 u6 u7 u8 u9 u10 u11 u12 u13 u14 u15 u16 u17 u18 u19 u20 u21 u22 u23 u24 u25 u26 u27 u28 u29 u30 u31 u32 u33 u34 u35 u36 u37 Y hob hY hobl
  apply hK1
  have HY := zac hY
  have HTY := HT Y hY
  have HOB := zac hob
  clear hY hob hK1 HT HU HC1 HC2 HC3 HC4 x7_0 x8_0 x9_0
  cases tt with
  | false =>
   go_wp2_with (first | (go_at_call 35; refine (ud HTY).mono ?_; rintro e T ⟨rfl, hT⟩; have hYT := (ud HY).trans (hT.mono (ud HY).size); have hobT := (hT.block _ (zaa (ud HOB))).trans (ud HOB); have hrT := (hYT.block _ hrl).trans (ud HRES); obtain ⟨p0, p1, p2, p3, p4, p5, p6, p7⟩ := z8 hobT; obtain ⟨r0, r1, r2, r3, r4, r5, r6, r7⟩ := z8 hrT; have pf := fun j => zax hobT j; have rf := fun j => zax hrT j; have hne1 : ¬ w.heap.size = ob := (by omega); have hne2 : ¬ ob = w.heap.size := (by omega); have hlo := zaa hobT; have hlr := zaa hrT; have HYT := zac hYT; have HRT := zac hrT; clear hT hYT hobT hrT))
   have hf := row8s (ud HRT) (int i64 m.now) (int i64 U) (int i64 0) (int i64 ep) (int i64 A1) (int i64 A2) (int i64 A3) (int i64 G)
   refine bodyPost_ret (v := .agg #[int i64 m.now, int i64 U, int i64 0, int i64 ep, int i64 A1, int i64 A2, int i64 A3, int i64 G]) (results_cell_row Tryz.results13 _ _ w.heap.size _ _ _ _ rfl hf Tryz.underlying37 rfl (by kernel_rfl)) rfl ?_
   refine ⟨rfl, ?_⟩
   have hw := (ud HB0).trans ((ud HYT).mono (ud HB0).size)
   exact hw.trans (below8s (Nat.le_refl _) (int i64 m.now) (int i64 U) (int i64 0) (int i64 ep) (int i64 A1) (int i64 A2) (int i64 A3) (int i64 G))
  | true =>
   go_wp2_with (first | (go_at_call 35; refine (ud HTY).mono ?_; rintro e T ⟨rfl, hT⟩; have hYT := (ud HY).trans (hT.mono (ud HY).size); have hobT := (hT.block _ (zaa (ud HOB))).trans (ud HOB); have hrT := (hYT.block _ hrl).trans (ud HRES); obtain ⟨p0, p1, p2, p3, p4, p5, p6, p7⟩ := z8 hobT; obtain ⟨r0, r1, r2, r3, r4, r5, r6, r7⟩ := z8 hrT; have pf := fun j => zax hobT j; have rf := fun j => zax hrT j; have hne1 : ¬ w.heap.size = ob := (by omega); have hne2 : ¬ ob = w.heap.size := (by omega); have hlo := zaa hobT; have hlr := zaa hrT; have HYT := zac hYT; have HRT := zac hrT; clear hT hYT hobT hrT))
   have hf := row8s (w := T.setCell ⟨ob, 2, none⟩ (int i64 1)) ((zay hne1).trans (ud HRT)) (int i64 m.now) (int i64 U) (int i64 1) (int i64 ep) (int i64 A1) (int i64 A2) (int i64 A3) (int i64 G)
   refine bodyPost_ret (v := .agg #[int i64 m.now, int i64 U, int i64 1, int i64 ep, int i64 A1, int i64 A2, int i64 A3, int i64 G]) (results_cell_row Tryz.results13 _ _ w.heap.size _ _ _ _ rfl hf Tryz.underlying37 rfl (by kernel_rfl)) rfl ?_
   refine ⟨rfl, ?_⟩
   have hw := (ud HB0).trans ((ud HYT).mono (ud HB0).size)
   exact (hw.setCell (p := ⟨ob, 2, none⟩) (show w.heap.size <= ob by omega) _).trans (below8s (Nat.le_refl _) (int i64 m.now) (int i64 U) (int i64 1) (int i64 ep) (int i64 A1) (int i64 A2) (int i64 A3) (int i64 G))
 clear hK1 HT
 go_region_held3 (fun w' => w'.cell? ⟨i.x, 7, none⟩ = some (int i64 ep) /\ w'.cell? ⟨i.x, 8, none⟩ = some (int i64 m.now) /\ w'.cell? ⟨i.x, 9, none⟩ = some (.pointer (some ⟨i.s, 0, none⟩))) (go_keep) (first
  | (go_at_call 33; (first | (with_reducible refine (ud (HU (V0.alloc (.cells #[int i64 0, int i64 0, int i64 0, int i64 0, int i64 0, int i64 0, int i64 0, int i64 0] 37)) ((ud HV0).alloc (ud HV0).size (.cells #[int i64 0, int i64 0, int i64 0, int i64 0, int i64 0, int i64 0, int i64 0, int i64 0] 37)))).mono ?_) | (with_reducible refine (ud (HU (V0.alloc (.cells #[int i64 0, int i64 0, int i64 0, int i64 0, int i64 0, int i64 0, int i64 0, int i64 0] 37)).drew ((ud HV0).alloc (ud HV0).size (.cells #[int i64 0, int i64 0, int i64 0, int i64 0, int i64 0, int i64 0, int i64 0, int i64 0] 37)).drew)).mono ?_)); rintro e V1 ⟨rfl, hn0⟩; have hn : Below (V0.alloc (.cells #[int i64 0, int i64 0, int i64 0, int i64 0, int i64 0, int i64 0, int i64 0, int i64 0] 37)).heap.size (V0.alloc (.cells #[int i64 0, int i64 0, int i64 0, int i64 0, int i64 0, int i64 0, int i64 0, int i64 0] 37)) V1 := ⟨hn0.os, hn0.tape, hn0.output, hn0.size, hn0.block⟩; have hX1 := ((ud HV0).alloc (ud HV0).size (.cells #[int i64 0, int i64 0, int i64 0, int i64 0, int i64 0, int i64 0, int i64 0, int i64 0] 37)).trans (hn.mono ((ud HV0).alloc (ud HV0).size (.cells #[int i64 0, int i64 0, int i64 0, int i64 0, int i64 0, int i64 0, int i64 0, int i64 0] 37)).size); have HV1 := zac hX1; have x7_1 : V1.cell? ⟨i.x, 7, none⟩ = some (int i64 ep) := (hX1.cell (p := ⟨i.x, 7, none⟩) hx0).trans x7_0; have x8_1 : V1.cell? ⟨i.x, 8, none⟩ = some (int i64 m.now) := (hX1.cell (p := ⟨i.x, 8, none⟩) hx0).trans x8_0; have x9_1 : V1.cell? ⟨i.x, 9, none⟩ = some (.pointer (some ⟨i.s, 0, none⟩)) := (hX1.cell (p := ⟨i.x, 9, none⟩) hx0).trans x9_0; have hx1 : i.x < V1.heap.size := Nat.lt_of_lt_of_le hx0 hX1.size; have hob := (hn.block V0.heap.size (by simp)).trans (zag V0 (.cells #[int i64 0, int i64 0, int i64 0, int i64 0, int i64 0, int i64 0, int i64 0, int i64 0] 37)); have n1 : ¬ i.x = V0.heap.size := (by have := hx0; omega); have n2 : ¬ V0.heap.size = i.x := (by have := hx0; omega); obtain ⟨o0, o1, o2, o3, o4, o5, o6, o7⟩ := z8 hob; have of := fun j => zax hob j; have ol := zaa hob; have HOB := zac hob; clear hob; clear hn0 hn hX1)
  | (go_at_call 33; (first | (with_reducible refine (ud (HU V0 (ud HV0))).mono ?_) | (with_reducible refine (ud (HU V0.drew (ud HV0).drew)).mono ?_)); rintro e V1 ⟨rfl, hn0⟩; have hn : Below V0.heap.size V0 V1 := ⟨hn0.os, hn0.tape, hn0.output, hn0.size, hn0.block⟩; have hX1 := (ud HV0).trans (hn.mono (ud HV0).size); have HV1 := zac hX1; have x7_1 : V1.cell? ⟨i.x, 7, none⟩ = some (int i64 ep) := (hX1.cell (p := ⟨i.x, 7, none⟩) hx0).trans x7_0; have x8_1 : V1.cell? ⟨i.x, 8, none⟩ = some (int i64 m.now) := (hX1.cell (p := ⟨i.x, 8, none⟩) hx0).trans x8_0; have x9_1 : V1.cell? ⟨i.x, 9, none⟩ = some (.pointer (some ⟨i.s, 0, none⟩)) := (hX1.cell (p := ⟨i.x, 9, none⟩) hx0).trans x9_0; have hx1 : i.x < V1.heap.size := Nat.lt_of_lt_of_le hx0 hX1.size; clear hn0 hn hX1)
  | (go_at_call 34; have hob0 := ud HOB; (first | (with_reducible refine (ud (HC1 V1 (ud HV1))).mono ?_) | (with_reducible refine (ud (HC1 V1.drew (ud HV1).drew)).mono ?_)); rintro e V2 ⟨rfl, hn0⟩; have hn : Below V1.heap.size V1 V2 := ⟨hn0.os, hn0.tape, hn0.output, hn0.size, hn0.block⟩; have hX2 := (ud HV1).trans (hn.mono (ud HV1).size); have HV2 := zac hX2; have x7_2 : V2.cell? ⟨i.x, 7, none⟩ = some (int i64 ep) := (hX2.cell (p := ⟨i.x, 7, none⟩) hx0).trans x7_0; have x8_2 : V2.cell? ⟨i.x, 8, none⟩ = some (int i64 m.now) := (hX2.cell (p := ⟨i.x, 8, none⟩) hx0).trans x8_0; have x9_2 : V2.cell? ⟨i.x, 9, none⟩ = some (.pointer (some ⟨i.s, 0, none⟩)) := (hX2.cell (p := ⟨i.x, 9, none⟩) hx0).trans x9_0; have hx2 : i.x < V2.heap.size := Nat.lt_of_lt_of_le hx0 hX2.size; have hob := (hn.block _ (zaa hob0)).trans hob0; clear hob0 HOB o0 o1 o2 o3 o4 o5 o6 o7 of ol; obtain ⟨o0, o1, o2, o3, o4, o5, o6, o7⟩ := z8 hob; have of := fun j => zax hob j; have ol := zaa hob; have HOB := zac hob; clear hob; clear hn0 hn hX2)
  | (go_at_call 34; (first | (with_reducible refine (ud (HC1 (V1.alloc (.cells #[int i64 0, int i64 0, int i64 0, int i64 0, int i64 0, int i64 0, int i64 0, int i64 0] 37)) ((ud HV1).alloc (ud HV1).size (.cells #[int i64 0, int i64 0, int i64 0, int i64 0, int i64 0, int i64 0, int i64 0, int i64 0] 37)))).mono ?_) | (with_reducible refine (ud (HC1 (V1.alloc (.cells #[int i64 0, int i64 0, int i64 0, int i64 0, int i64 0, int i64 0, int i64 0, int i64 0] 37)).drew ((ud HV1).alloc (ud HV1).size (.cells #[int i64 0, int i64 0, int i64 0, int i64 0, int i64 0, int i64 0, int i64 0, int i64 0] 37)).drew)).mono ?_)); rintro e V2 ⟨rfl, hn0⟩; have hn : Below (V1.alloc (.cells #[int i64 0, int i64 0, int i64 0, int i64 0, int i64 0, int i64 0, int i64 0, int i64 0] 37)).heap.size (V1.alloc (.cells #[int i64 0, int i64 0, int i64 0, int i64 0, int i64 0, int i64 0, int i64 0, int i64 0] 37)) V2 := ⟨hn0.os, hn0.tape, hn0.output, hn0.size, hn0.block⟩; have hX2 := ((ud HV1).alloc (ud HV1).size (.cells #[int i64 0, int i64 0, int i64 0, int i64 0, int i64 0, int i64 0, int i64 0, int i64 0] 37)).trans (hn.mono ((ud HV1).alloc (ud HV1).size (.cells #[int i64 0, int i64 0, int i64 0, int i64 0, int i64 0, int i64 0, int i64 0, int i64 0] 37)).size); have HV2 := zac hX2; have x7_2 : V2.cell? ⟨i.x, 7, none⟩ = some (int i64 ep) := (hX2.cell (p := ⟨i.x, 7, none⟩) hx0).trans x7_0; have x8_2 : V2.cell? ⟨i.x, 8, none⟩ = some (int i64 m.now) := (hX2.cell (p := ⟨i.x, 8, none⟩) hx0).trans x8_0; have x9_2 : V2.cell? ⟨i.x, 9, none⟩ = some (.pointer (some ⟨i.s, 0, none⟩)) := (hX2.cell (p := ⟨i.x, 9, none⟩) hx0).trans x9_0; have hx2 : i.x < V2.heap.size := Nat.lt_of_lt_of_le hx0 hX2.size; have hob := (hn.block V1.heap.size (by simp)).trans (zag V1 (.cells #[int i64 0, int i64 0, int i64 0, int i64 0, int i64 0, int i64 0, int i64 0, int i64 0] 37)); have n1 : ¬ i.x = V1.heap.size := (by have := hx1; omega); have n2 : ¬ V1.heap.size = i.x := (by have := hx1; omega); obtain ⟨o0, o1, o2, o3, o4, o5, o6, o7⟩ := z8 hob; have of := fun j => zax hob j; have ol := zaa hob; have HOB := zac hob; clear hob; clear hn0 hn hX2)
  | (go_at_call 34; (first | (with_reducible refine (ud (HC1 V1 (ud HV1))).mono ?_) | (with_reducible refine (ud (HC1 V1.drew (ud HV1).drew)).mono ?_)); rintro e V2 ⟨rfl, hn0⟩; have hn : Below V1.heap.size V1 V2 := ⟨hn0.os, hn0.tape, hn0.output, hn0.size, hn0.block⟩; have hX2 := (ud HV1).trans (hn.mono (ud HV1).size); have HV2 := zac hX2; have x7_2 : V2.cell? ⟨i.x, 7, none⟩ = some (int i64 ep) := (hX2.cell (p := ⟨i.x, 7, none⟩) hx0).trans x7_0; have x8_2 : V2.cell? ⟨i.x, 8, none⟩ = some (int i64 m.now) := (hX2.cell (p := ⟨i.x, 8, none⟩) hx0).trans x8_0; have x9_2 : V2.cell? ⟨i.x, 9, none⟩ = some (.pointer (some ⟨i.s, 0, none⟩)) := (hX2.cell (p := ⟨i.x, 9, none⟩) hx0).trans x9_0; have hx2 : i.x < V2.heap.size := Nat.lt_of_lt_of_le hx0 hX2.size; clear hn0 hn hX2)
  | (go_at_call 34; have hob0 := ud HOB; (first | (with_reducible refine (ud (HC2 V2 (ud HV2))).mono ?_) | (with_reducible refine (ud (HC2 V2.drew (ud HV2).drew)).mono ?_)); rintro e V3 ⟨rfl, hn0⟩; have hn : Below V2.heap.size V2 V3 := ⟨hn0.os, hn0.tape, hn0.output, hn0.size, hn0.block⟩; have hX3 := (ud HV2).trans (hn.mono (ud HV2).size); have HV3 := zac hX3; have x7_3 : V3.cell? ⟨i.x, 7, none⟩ = some (int i64 ep) := (hX3.cell (p := ⟨i.x, 7, none⟩) hx0).trans x7_0; have x8_3 : V3.cell? ⟨i.x, 8, none⟩ = some (int i64 m.now) := (hX3.cell (p := ⟨i.x, 8, none⟩) hx0).trans x8_0; have x9_3 : V3.cell? ⟨i.x, 9, none⟩ = some (.pointer (some ⟨i.s, 0, none⟩)) := (hX3.cell (p := ⟨i.x, 9, none⟩) hx0).trans x9_0; have hx3 : i.x < V3.heap.size := Nat.lt_of_lt_of_le hx0 hX3.size; have hob := (hn.block _ (zaa hob0)).trans hob0; clear hob0 HOB o0 o1 o2 o3 o4 o5 o6 o7 of ol; obtain ⟨o0, o1, o2, o3, o4, o5, o6, o7⟩ := z8 hob; have of := fun j => zax hob j; have ol := zaa hob; have HOB := zac hob; clear hob; clear hn0 hn hX3)
  | (go_at_call 34; (first | (with_reducible refine (ud (HC2 (V2.alloc (.cells #[int i64 0, int i64 0, int i64 0, int i64 0, int i64 0, int i64 0, int i64 0, int i64 0] 37)) ((ud HV2).alloc (ud HV2).size (.cells #[int i64 0, int i64 0, int i64 0, int i64 0, int i64 0, int i64 0, int i64 0, int i64 0] 37)))).mono ?_) | (with_reducible refine (ud (HC2 (V2.alloc (.cells #[int i64 0, int i64 0, int i64 0, int i64 0, int i64 0, int i64 0, int i64 0, int i64 0] 37)).drew ((ud HV2).alloc (ud HV2).size (.cells #[int i64 0, int i64 0, int i64 0, int i64 0, int i64 0, int i64 0, int i64 0, int i64 0] 37)).drew)).mono ?_)); rintro e V3 ⟨rfl, hn0⟩; have hn : Below (V2.alloc (.cells #[int i64 0, int i64 0, int i64 0, int i64 0, int i64 0, int i64 0, int i64 0, int i64 0] 37)).heap.size (V2.alloc (.cells #[int i64 0, int i64 0, int i64 0, int i64 0, int i64 0, int i64 0, int i64 0, int i64 0] 37)) V3 := ⟨hn0.os, hn0.tape, hn0.output, hn0.size, hn0.block⟩; have hX3 := ((ud HV2).alloc (ud HV2).size (.cells #[int i64 0, int i64 0, int i64 0, int i64 0, int i64 0, int i64 0, int i64 0, int i64 0] 37)).trans (hn.mono ((ud HV2).alloc (ud HV2).size (.cells #[int i64 0, int i64 0, int i64 0, int i64 0, int i64 0, int i64 0, int i64 0, int i64 0] 37)).size); have HV3 := zac hX3; have x7_3 : V3.cell? ⟨i.x, 7, none⟩ = some (int i64 ep) := (hX3.cell (p := ⟨i.x, 7, none⟩) hx0).trans x7_0; have x8_3 : V3.cell? ⟨i.x, 8, none⟩ = some (int i64 m.now) := (hX3.cell (p := ⟨i.x, 8, none⟩) hx0).trans x8_0; have x9_3 : V3.cell? ⟨i.x, 9, none⟩ = some (.pointer (some ⟨i.s, 0, none⟩)) := (hX3.cell (p := ⟨i.x, 9, none⟩) hx0).trans x9_0; have hx3 : i.x < V3.heap.size := Nat.lt_of_lt_of_le hx0 hX3.size; have hob := (hn.block V2.heap.size (by simp)).trans (zag V2 (.cells #[int i64 0, int i64 0, int i64 0, int i64 0, int i64 0, int i64 0, int i64 0, int i64 0] 37)); have n1 : ¬ i.x = V2.heap.size := (by have := hx2; omega); have n2 : ¬ V2.heap.size = i.x := (by have := hx2; omega); obtain ⟨o0, o1, o2, o3, o4, o5, o6, o7⟩ := z8 hob; have of := fun j => zax hob j; have ol := zaa hob; have HOB := zac hob; clear hob; clear hn0 hn hX3)
  | (go_at_call 34; (first | (with_reducible refine (ud (HC2 V2 (ud HV2))).mono ?_) | (with_reducible refine (ud (HC2 V2.drew (ud HV2).drew)).mono ?_)); rintro e V3 ⟨rfl, hn0⟩; have hn : Below V2.heap.size V2 V3 := ⟨hn0.os, hn0.tape, hn0.output, hn0.size, hn0.block⟩; have hX3 := (ud HV2).trans (hn.mono (ud HV2).size); have HV3 := zac hX3; have x7_3 : V3.cell? ⟨i.x, 7, none⟩ = some (int i64 ep) := (hX3.cell (p := ⟨i.x, 7, none⟩) hx0).trans x7_0; have x8_3 : V3.cell? ⟨i.x, 8, none⟩ = some (int i64 m.now) := (hX3.cell (p := ⟨i.x, 8, none⟩) hx0).trans x8_0; have x9_3 : V3.cell? ⟨i.x, 9, none⟩ = some (.pointer (some ⟨i.s, 0, none⟩)) := (hX3.cell (p := ⟨i.x, 9, none⟩) hx0).trans x9_0; have hx3 : i.x < V3.heap.size := Nat.lt_of_lt_of_le hx0 hX3.size; clear hn0 hn hX3)
  | (go_at_call 34; have hob0 := ud HOB; (first | (with_reducible refine (ud (HC3 V3 (ud HV3))).mono ?_) | (with_reducible refine (ud (HC3 V3.drew (ud HV3).drew)).mono ?_)); rintro e V4 ⟨rfl, hn0⟩; have hn : Below V3.heap.size V3 V4 := ⟨hn0.os, hn0.tape, hn0.output, hn0.size, hn0.block⟩; have hX4 := (ud HV3).trans (hn.mono (ud HV3).size); have HV4 := zac hX4; have x7_4 : V4.cell? ⟨i.x, 7, none⟩ = some (int i64 ep) := (hX4.cell (p := ⟨i.x, 7, none⟩) hx0).trans x7_0; have x8_4 : V4.cell? ⟨i.x, 8, none⟩ = some (int i64 m.now) := (hX4.cell (p := ⟨i.x, 8, none⟩) hx0).trans x8_0; have x9_4 : V4.cell? ⟨i.x, 9, none⟩ = some (.pointer (some ⟨i.s, 0, none⟩)) := (hX4.cell (p := ⟨i.x, 9, none⟩) hx0).trans x9_0; have hx4 : i.x < V4.heap.size := Nat.lt_of_lt_of_le hx0 hX4.size; have hob := (hn.block _ (zaa hob0)).trans hob0; clear hob0 HOB o0 o1 o2 o3 o4 o5 o6 o7 of ol; obtain ⟨o0, o1, o2, o3, o4, o5, o6, o7⟩ := z8 hob; have of := fun j => zax hob j; have ol := zaa hob; have HOB := zac hob; clear hob; clear hn0 hn hX4)
  | (go_at_call 34; (first | (with_reducible refine (ud (HC3 (V3.alloc (.cells #[int i64 0, int i64 0, int i64 0, int i64 0, int i64 0, int i64 0, int i64 0, int i64 0] 37)) ((ud HV3).alloc (ud HV3).size (.cells #[int i64 0, int i64 0, int i64 0, int i64 0, int i64 0, int i64 0, int i64 0, int i64 0] 37)))).mono ?_) | (with_reducible refine (ud (HC3 (V3.alloc (.cells #[int i64 0, int i64 0, int i64 0, int i64 0, int i64 0, int i64 0, int i64 0, int i64 0] 37)).drew ((ud HV3).alloc (ud HV3).size (.cells #[int i64 0, int i64 0, int i64 0, int i64 0, int i64 0, int i64 0, int i64 0, int i64 0] 37)).drew)).mono ?_)); rintro e V4 ⟨rfl, hn0⟩; have hn : Below (V3.alloc (.cells #[int i64 0, int i64 0, int i64 0, int i64 0, int i64 0, int i64 0, int i64 0, int i64 0] 37)).heap.size (V3.alloc (.cells #[int i64 0, int i64 0, int i64 0, int i64 0, int i64 0, int i64 0, int i64 0, int i64 0] 37)) V4 := ⟨hn0.os, hn0.tape, hn0.output, hn0.size, hn0.block⟩; have hX4 := ((ud HV3).alloc (ud HV3).size (.cells #[int i64 0, int i64 0, int i64 0, int i64 0, int i64 0, int i64 0, int i64 0, int i64 0] 37)).trans (hn.mono ((ud HV3).alloc (ud HV3).size (.cells #[int i64 0, int i64 0, int i64 0, int i64 0, int i64 0, int i64 0, int i64 0, int i64 0] 37)).size); have HV4 := zac hX4; have x7_4 : V4.cell? ⟨i.x, 7, none⟩ = some (int i64 ep) := (hX4.cell (p := ⟨i.x, 7, none⟩) hx0).trans x7_0; have x8_4 : V4.cell? ⟨i.x, 8, none⟩ = some (int i64 m.now) := (hX4.cell (p := ⟨i.x, 8, none⟩) hx0).trans x8_0; have x9_4 : V4.cell? ⟨i.x, 9, none⟩ = some (.pointer (some ⟨i.s, 0, none⟩)) := (hX4.cell (p := ⟨i.x, 9, none⟩) hx0).trans x9_0; have hx4 : i.x < V4.heap.size := Nat.lt_of_lt_of_le hx0 hX4.size; have hob := (hn.block V3.heap.size (by simp)).trans (zag V3 (.cells #[int i64 0, int i64 0, int i64 0, int i64 0, int i64 0, int i64 0, int i64 0, int i64 0] 37)); have n1 : ¬ i.x = V3.heap.size := (by have := hx3; omega); have n2 : ¬ V3.heap.size = i.x := (by have := hx3; omega); obtain ⟨o0, o1, o2, o3, o4, o5, o6, o7⟩ := z8 hob; have of := fun j => zax hob j; have ol := zaa hob; have HOB := zac hob; clear hob; clear hn0 hn hX4)
  | (go_at_call 34; (first | (with_reducible refine (ud (HC3 V3 (ud HV3))).mono ?_) | (with_reducible refine (ud (HC3 V3.drew (ud HV3).drew)).mono ?_)); rintro e V4 ⟨rfl, hn0⟩; have hn : Below V3.heap.size V3 V4 := ⟨hn0.os, hn0.tape, hn0.output, hn0.size, hn0.block⟩; have hX4 := (ud HV3).trans (hn.mono (ud HV3).size); have HV4 := zac hX4; have x7_4 : V4.cell? ⟨i.x, 7, none⟩ = some (int i64 ep) := (hX4.cell (p := ⟨i.x, 7, none⟩) hx0).trans x7_0; have x8_4 : V4.cell? ⟨i.x, 8, none⟩ = some (int i64 m.now) := (hX4.cell (p := ⟨i.x, 8, none⟩) hx0).trans x8_0; have x9_4 : V4.cell? ⟨i.x, 9, none⟩ = some (.pointer (some ⟨i.s, 0, none⟩)) := (hX4.cell (p := ⟨i.x, 9, none⟩) hx0).trans x9_0; have hx4 : i.x < V4.heap.size := Nat.lt_of_lt_of_le hx0 hX4.size; clear hn0 hn hX4)
  | (go_at_call 34; have hob0 := ud HOB; (first | (with_reducible refine (ud (HC4 V4 (ud HV4))).mono ?_) | (with_reducible refine (ud (HC4 V4.drew (ud HV4).drew)).mono ?_)); rintro e V5 ⟨rfl, hn0⟩; have hn : Below V4.heap.size V4 V5 := ⟨hn0.os, hn0.tape, hn0.output, hn0.size, hn0.block⟩; have hX5 := (ud HV4).trans (hn.mono (ud HV4).size); have HV5 := zac hX5; have x7_5 : V5.cell? ⟨i.x, 7, none⟩ = some (int i64 ep) := (hX5.cell (p := ⟨i.x, 7, none⟩) hx0).trans x7_0; have x8_5 : V5.cell? ⟨i.x, 8, none⟩ = some (int i64 m.now) := (hX5.cell (p := ⟨i.x, 8, none⟩) hx0).trans x8_0; have x9_5 : V5.cell? ⟨i.x, 9, none⟩ = some (.pointer (some ⟨i.s, 0, none⟩)) := (hX5.cell (p := ⟨i.x, 9, none⟩) hx0).trans x9_0; have hx5 : i.x < V5.heap.size := Nat.lt_of_lt_of_le hx0 hX5.size; have hob := (hn.block _ (zaa hob0)).trans hob0; clear hob0 HOB o0 o1 o2 o3 o4 o5 o6 o7 of ol; obtain ⟨o0, o1, o2, o3, o4, o5, o6, o7⟩ := z8 hob; have of := fun j => zax hob j; have ol := zaa hob; have HOB := zac hob; clear hob; clear hn0 hn hX5)
  | (go_at_call 34; (first | (with_reducible refine (ud (HC4 (V4.alloc (.cells #[int i64 0, int i64 0, int i64 0, int i64 0, int i64 0, int i64 0, int i64 0, int i64 0] 37)) ((ud HV4).alloc (ud HV4).size (.cells #[int i64 0, int i64 0, int i64 0, int i64 0, int i64 0, int i64 0, int i64 0, int i64 0] 37)))).mono ?_) | (with_reducible refine (ud (HC4 (V4.alloc (.cells #[int i64 0, int i64 0, int i64 0, int i64 0, int i64 0, int i64 0, int i64 0, int i64 0] 37)).drew ((ud HV4).alloc (ud HV4).size (.cells #[int i64 0, int i64 0, int i64 0, int i64 0, int i64 0, int i64 0, int i64 0, int i64 0] 37)).drew)).mono ?_)); rintro e V5 ⟨rfl, hn0⟩; have hn : Below (V4.alloc (.cells #[int i64 0, int i64 0, int i64 0, int i64 0, int i64 0, int i64 0, int i64 0, int i64 0] 37)).heap.size (V4.alloc (.cells #[int i64 0, int i64 0, int i64 0, int i64 0, int i64 0, int i64 0, int i64 0, int i64 0] 37)) V5 := ⟨hn0.os, hn0.tape, hn0.output, hn0.size, hn0.block⟩; have hX5 := ((ud HV4).alloc (ud HV4).size (.cells #[int i64 0, int i64 0, int i64 0, int i64 0, int i64 0, int i64 0, int i64 0, int i64 0] 37)).trans (hn.mono ((ud HV4).alloc (ud HV4).size (.cells #[int i64 0, int i64 0, int i64 0, int i64 0, int i64 0, int i64 0, int i64 0, int i64 0] 37)).size); have HV5 := zac hX5; have x7_5 : V5.cell? ⟨i.x, 7, none⟩ = some (int i64 ep) := (hX5.cell (p := ⟨i.x, 7, none⟩) hx0).trans x7_0; have x8_5 : V5.cell? ⟨i.x, 8, none⟩ = some (int i64 m.now) := (hX5.cell (p := ⟨i.x, 8, none⟩) hx0).trans x8_0; have x9_5 : V5.cell? ⟨i.x, 9, none⟩ = some (.pointer (some ⟨i.s, 0, none⟩)) := (hX5.cell (p := ⟨i.x, 9, none⟩) hx0).trans x9_0; have hx5 : i.x < V5.heap.size := Nat.lt_of_lt_of_le hx0 hX5.size; have hob := (hn.block V4.heap.size (by simp)).trans (zag V4 (.cells #[int i64 0, int i64 0, int i64 0, int i64 0, int i64 0, int i64 0, int i64 0, int i64 0] 37)); have n1 : ¬ i.x = V4.heap.size := (by have := hx4; omega); have n2 : ¬ V4.heap.size = i.x := (by have := hx4; omega); obtain ⟨o0, o1, o2, o3, o4, o5, o6, o7⟩ := z8 hob; have of := fun j => zax hob j; have ol := zaa hob; have HOB := zac hob; clear hob; clear hn0 hn hX5)
  | (go_at_call 34; (first | (with_reducible refine (ud (HC4 V4 (ud HV4))).mono ?_) | (with_reducible refine (ud (HC4 V4.drew (ud HV4).drew)).mono ?_)); rintro e V5 ⟨rfl, hn0⟩; have hn : Below V4.heap.size V4 V5 := ⟨hn0.os, hn0.tape, hn0.output, hn0.size, hn0.block⟩; have hX5 := (ud HV4).trans (hn.mono (ud HV4).size); have HV5 := zac hX5; have x7_5 : V5.cell? ⟨i.x, 7, none⟩ = some (int i64 ep) := (hX5.cell (p := ⟨i.x, 7, none⟩) hx0).trans x7_0; have x8_5 : V5.cell? ⟨i.x, 8, none⟩ = some (int i64 m.now) := (hX5.cell (p := ⟨i.x, 8, none⟩) hx0).trans x8_0; have x9_5 : V5.cell? ⟨i.x, 9, none⟩ = some (.pointer (some ⟨i.s, 0, none⟩)) := (hX5.cell (p := ⟨i.x, 9, none⟩) hx0).trans x9_0; have hx5 : i.x < V5.heap.size := Nat.lt_of_lt_of_le hx0 hX5.size; clear hn0 hn hX5))
 all_goals show K1 _ _
 all_goals (with_reducible refine ud HR _ _ _ _ _ _ _ _ _ _ _ _ _ _ _ _ _ _ _ _ _ _ _ _ _ _ _ _ _ _ _ _ _ _ _ _ ?_ ?_ ?_)
 all_goals (have sz5 := (ud HV5).size; have sz4 := (ud HV4).size; have sz3 := (ud HV3).size; have sz2 := (ud HV2).size; have sz1 := (ud HV1).size)
 all_goals (try have ol' := ol)
 all_goals (try have hob := ud HOB)
 all_goals (first
  | (with_reducible exact zag _ _)
  | (with_reducible exact row8s (by assumption) _ _ _ _ _ _ _ _)
  | (with_reducible exact bel_fin (ud HV5) _)
  | ((with_reducible refine bel_set (ud HV5) ?_ _ _ _ _ _ _ _ _) <;> omega)
  | omega)
end Go.Proofs.YtpbimdkclnekeaaGreat
