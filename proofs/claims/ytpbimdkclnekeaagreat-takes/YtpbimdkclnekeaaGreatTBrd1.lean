import Derived.Test.YtpbimdkclnekeaaGreatTBrd0

namespace Go.Proofs.YtpbimdkclnekeaaGreat
open Value (int)
open IntKind (i64)
open Go.RowKit Go.Maps Go.Shelf
open Go.ChangeMaps (setBlock)
set_option linter.unusedVariables false
structure zbq (w : World) (b : Nat) (c : Cf) (tv : Value) (ep num : Int) (tb qb : Nat) (TL : List (Jk × Tsk)) (QL : List (Tok × Lse)) : Prop where
 head : w.heap[b]? = some (.cells #[int i64 c.s, int i64 c.le, int i64 c.la, int i64 c.wi, int i64 c.ke, int i64 c.qu, tv, int i64 ep, int i64 num, .map (some tb), .map (some qb)] 156 (0, 0))
 tasks : zce tasksM w tb TL
 leases : zce zfh w qb QL
 apart : tb ≠ qb
def bfoot (b tb qb : Nat) (k : Nat) : Prop := k = b \/ k = tb \/ k = qb
section
variable {w w' : World} {b : Nat} {c : Cf} {tv : Value} {ep num : Int} {tb qb : Nat} {TL : List (Jk × Tsk)} {QL : List (Tok × Lse)}
theorem zbq.lt (h : zbq w b c tv ep num tb qb TL QL) : b < w.heap.size := zaa h.head
theorem zbq.kept {f : Nat -> Prop} (h : zbq w b c tv ep num tb qb TL QL) (hk : zan f w w') (hn : ∀ k, bfoot b tb qb k -> ¬ f k) : zbq w' b c tv ep num tb qb TL QL :=
 ⟨hk.heap h.head (hn b (.inl rfl)), h.tasks.kept hk (hn tb (.inr (.inl rfl))), h.leases.kept hk (hn qb (.inr (.inr rfl))), h.apart⟩
theorem zbq.later (h : zbq w b c tv ep num tb qb TL QL) (hb : Below w.heap.size w w') : zbq w' b c tv ep num tb qb TL QL := h.kept (f := fun _ => False) (zan.of_below hb) (fun _ _ hh => hh)
theorem zbq.foot_lt (h : zbq w b c tv ep num tb qb TL QL) : ∀ k, bfoot b tb qb k -> k < w.heap.size := fun k hk => by
 rcases hk with rfl | rfl | rfl
 ·exact h.lt
 ·exact h.tasks.lt
 ·exact h.leases.lt
theorem zbq.tb_ne (h : zbq w b c tv ep num tb qb TL QL) : tb ≠ b := fun e => by
 obtain ⟨es, cl, hb, _⟩ := h.tasks; rw [e, h.head] at hb; cases hb
theorem zbq.qb_ne (h : zbq w b c tv ep num tb qb TL QL) : qb ≠ b := fun e => by
 obtain ⟨es, cl, hb, _⟩ := h.leases; rw [e, h.head] at hb; cases hb
theorem zbq.putTasks (h : zbq w b c tv ep num tb qb TL QL) {TL' : List (Jk × Tsk)} (hm : zce tasksM w' tb TL') (hk : zan (fun k => k = tb) w w') : zbq w' b c tv ep num tb qb TL' QL :=
 ⟨hk.heap h.head (fun e => h.tb_ne e.symm), hm, h.leases.kept hk (fun e => h.apart e.symm), h.apart⟩
theorem zbq.cell9 (h : zbq w b c tv ep num tb qb TL QL) : w.cell? ⟨b, 9, none⟩ = some (.map (some tb)) := by rw [zac h.head]; rfl
theorem zbq.cell10 (h : zbq w b c tv ep num tb qb TL QL) : w.cell? ⟨b, 10, none⟩ = some (.map (some qb)) := by rw [zac h.head]; rfl
end
theorem post_end {w w' : World} {b : Nat} {c : Cf} {tv : Value} {ep num : Int} {tb qb : Nat} {TL : List (Jk × Tsk)} {QL : List (Tok × Lse)} (h : zbq w b c tv ep num tb qb TL QL) (hb : Below w.heap.size w w') : Ending.returned (.tuple #[]) = .returned (.tuple #[]) /\ zbq w' b c tv ep num tb qb TL QL /\ zan (fun k => k = tb) w w' := ⟨rfl, h.later hb, zan.of_below hb⟩
theorem end_store {w V W : World} {b : Nat} {c : Cf} {tv : Value} {ep num : Int} {tb qb : Nat} {TL TL' : List (Jk × Tsk)} {QL : List (Tok × Lse)} (h : zbq w b c tv ep num tb qb TL QL) (hb : Below w.heap.size w V) (hm : zce tasksM W tb TL') (hk : zan (fun k => k = tb) V W) : Ending.returned (.tuple #[]) = .returned (.tuple #[]) /\ zbq W b c tv ep num tb qb TL' QL /\ zan (fun k => k = tb) w W :=
 ⟨rfl, (h.later hb).putTasks hm hk, (zan.of_below (f := fun k => k = tb) hb).trans hk (fun _ _ e => e)⟩
def lookT (t : Option Tsk) : Value := match t with
 | none => .agg #[.nilIface, int i64 0, int i64 0, int i64 0]
 | some x => tskVal x
theorem look_task {X : World} {tb : Nat} {TL : List (Jk × Tsk)} (h : zce tasksM X tb TL) {k : Jk} (hk : k.wf) : (Instr.lookup 154 (.map (some tb)) (.agg #[int i64 k.kd, int i64 k.s.t, int i64 k.s.ser, int i64 k.s.win]) true).run Tryz.prog X = .ok (.tuple #[lookT (zbm TL k), .bool (zbm TL k).isSome]) X := by
 have h1 := run_lookM tasks_ok true h hk
 cases hg : zbm TL k with
 | none => rw [hg] at h1; exact h1
 | some t => rw [hg] at h1; exact h1
theorem store_Roll {X : World} {tb : Nat} {TL : List (Jk × Tsk)} (h : zce tasksM X tb TL) (hr : TL.length < maxLen) {s : Sg} (hk : (⟨1, s⟩ : Jk).wf) (now : Int) :
  ∃ o, (Instr.mapUpdate 154 (.map (some tb)) (.agg #[int i64 1, int i64 s.t, int i64 s.ser, int i64 s.win]) (.agg #[.iface 175 (.agg #[int i64 s.t, int i64 s.ser, int i64 s.win]), int i64 now, int i64 0, int i64 0])).run Tryz.prog X = .ok () (setBlock X tb o) /\ zce tasksM (setBlock X tb o) tb (zer TL ⟨1, s⟩ ⟨true, s, now, 0, 0⟩) /\ zan (fun k => k = tb) X (setBlock X tb o) /\ o.isCells = false :=
 run_storeM tasks_ok h hr hk (⟨true, s, now, 0, 0⟩ : Tsk)
set_option maxRecDepth 8000 in
set_option maxHeartbeats 4000000 in
theorem post_Roll {w : World} {b : Nat} {c : Cf} {tv : Value} {ep num : Int} {tb qb : Nat} {TL : List (Jk × Tsk)} {QL : List (Tok × Lse)} (h : zbq w b c tv ep num tb qb TL QL) (s : Sg) (hs : s.wf) (now : Int) (hlen : TL.length <= 100000) :
  Calls Tryz.prog 95 #[.pointer (some ⟨b, 0, none⟩), .iface 175 (.agg #[int i64 s.t, int i64 s.ser, int i64 s.win]), int i64 now] w fun e w' => e = .returned (.tuple #[]) /\ zbq w' b c tv ep num tb qb (match zbm TL ⟨1, s⟩ with | some _ => TL | none => zer TL ⟨1, s⟩ ⟨true, s, now, 0, 0⟩) QL /\ zan (fun k => k = tb) w w' := by
 have hkw : (⟨1, s⟩ : Jk).wf := ⟨by unfold i64B; simp, hs⟩
 have hbl := h.lt
 have c9 := h.cell9
 have HKO := fun W => zab (keyOf_Roll s W)
 have HLK := fun X hX => look_task (h.tasks.later (w' := X) hX) hkw
 dsimp only at HLK
 have HH := zab h
 cases hg : zbm TL ⟨1, s⟩ with
 | some t =>
  rw [hg] at HLK
  dsimp only [Option.isSome, lookT, tskVal] at HLK
  clear h hs
  go_enter Tryz.func95, Tryz.ntmps95
  go_wp2_with fail
  go_region_held3 (fun w' => w'.cell? ⟨b, 9, none⟩ = some (.map (some tb))) (go_keep) (first
   | (go_at_call 87; refine (ud (HKO _)).mono ?_; rintro e V1 ⟨rfl, hbV1⟩; first | (have hX1 : Below w.heap.size w V1 := (by first | exact (Below.refl w.heap.size w).trans (hbV1.mono (Nat.le_refl _)) | exact ((Below.refl w.heap.size w).drew).trans (hbV1.mono (Nat.le_refl _))); have d9 := (hX1.cell (p := ⟨b, 9, none⟩) hbl).trans c9; have hbl1 := Nat.lt_of_lt_of_le hbl hX1.size; have g0 := HLK V1 hX1; have g1 := fun o => HLK (V1.alloc o) (hX1.alloc hX1.size o); have g2 := HLK V1.drew hX1.drew; have g3 := fun o => HLK (V1.alloc o).drew (hX1.alloc hX1.size o).drew; have HX1 := zab hX1; clear hbV1 hX1) | (have hX1 : Below w.heap.size w V1 := (by first | exact ((Below.refl w.heap.size w).drew.alloc (Nat.le_refl _) _).trans (hbV1.mono (by simp)) | exact (((Below.refl w.heap.size w).alloc (Nat.le_refl _) _).drew).trans (hbV1.mono (by simp))); have hq : V1.heap[w.heap.size]? = some (.cells #[.nilIface, int i64 0, int i64 0, int i64 0] 162 (0, 0)) := (by first | exact (hbV1.block _ (by simp)).trans (zap w.drew _) | exact (hbV1.block _ (by simp)).trans (zap w _)); have u0 : V1.cell? ⟨w.heap.size, 0, none⟩ = some .nilIface := (by rw [zac hq]; rfl); have u1 : V1.cell? ⟨w.heap.size, 1, none⟩ = some (int i64 0) := (by rw [zac hq]; rfl); have u2 : V1.cell? ⟨w.heap.size, 2, none⟩ = some (int i64 0) := (by rw [zac hq]; rfl); have u3 : V1.cell? ⟨w.heap.size, 3, none⟩ = some (int i64 0) := (by rw [zac hq]; rfl); have uf := fun j => zaz hq j; have hul := zaa hq; have hub : ¬ b = w.heap.size := (by omega); have hub2 : ¬ w.heap.size = b := (by omega); have HQ := zab hq; clear hq; have d9 := (hX1.cell (p := ⟨b, 9, none⟩) hbl).trans c9; have hbl1 := Nat.lt_of_lt_of_le hbl hX1.size; have g0 := HLK V1 hX1; have g1 := fun o => HLK (V1.alloc o) (hX1.alloc hX1.size o); have g2 := HLK V1.drew hX1.drew; have g3 := fun o => HLK (V1.alloc o).drew (hX1.alloc hX1.size o).drew; have HX1 := zab hX1; clear hbV1 hX1)))
  all_goals (go_wp2_with fail)
  all_goals (go_end0; first | exact post_end (ud HH) ((ud HX1).alloc (ud HX1).size _) | exact post_end (ud HH) ((ud HX1).trans (below4 (Nat.le_refl _) _ _ _ _)))
 | none =>
  rw [hg] at HLK
  dsimp only [Option.isSome, lookT] at HLK
  have HKW := zab hkw
  clear h hs
  go_enter Tryz.func95, Tryz.ntmps95
  go_wp2_with fail
  go_region_held3 (fun w' => w'.cell? ⟨b, 9, none⟩ = some (.map (some tb))) (go_keep) (first
   | (go_at_call 87; refine (ud (HKO _)).mono ?_; rintro e V1 ⟨rfl, hbV1⟩; first | (have hX1 : Below w.heap.size w V1 := (by first | exact (Below.refl w.heap.size w).trans (hbV1.mono (Nat.le_refl _)) | exact ((Below.refl w.heap.size w).drew).trans (hbV1.mono (Nat.le_refl _))); have d9 := (hX1.cell (p := ⟨b, 9, none⟩) hbl).trans c9; have hbl1 := Nat.lt_of_lt_of_le hbl hX1.size; have g0 := HLK V1 hX1; have g1 := fun o => HLK (V1.alloc o) (hX1.alloc hX1.size o); have g2 := HLK V1.drew hX1.drew; have g3 := fun o => HLK (V1.alloc o).drew (hX1.alloc hX1.size o).drew; have HX1 := zab hX1; clear hbV1 hX1) | (have hX1 : Below w.heap.size w V1 := (by first | exact ((Below.refl w.heap.size w).drew.alloc (Nat.le_refl _) _).trans (hbV1.mono (by simp)) | exact (((Below.refl w.heap.size w).alloc (Nat.le_refl _) _).drew).trans (hbV1.mono (by simp))); have hq : V1.heap[w.heap.size]? = some (.cells #[.nilIface, int i64 0, int i64 0, int i64 0] 162 (0, 0)) := (by first | exact (hbV1.block _ (by simp)).trans (zap w.drew _) | exact (hbV1.block _ (by simp)).trans (zap w _)); have u0 : V1.cell? ⟨w.heap.size, 0, none⟩ = some .nilIface := (by rw [zac hq]; rfl); have u1 : V1.cell? ⟨w.heap.size, 1, none⟩ = some (int i64 0) := (by rw [zac hq]; rfl); have u2 : V1.cell? ⟨w.heap.size, 2, none⟩ = some (int i64 0) := (by rw [zac hq]; rfl); have u3 : V1.cell? ⟨w.heap.size, 3, none⟩ = some (int i64 0) := (by rw [zac hq]; rfl); have uf := fun j => zaz hq j; have hul := zaa hq; have hub : ¬ b = w.heap.size := (by omega); have hub2 : ¬ w.heap.size = b := (by omega); have HQ := zab hq; clear hq; have d9 := (hX1.cell (p := ⟨b, 9, none⟩) hbl).trans c9; have hbl1 := Nat.lt_of_lt_of_le hbl hX1.size; have g0 := HLK V1 hX1; have g1 := fun o => HLK (V1.alloc o) (hX1.alloc hX1.size o); have g2 := HLK V1.drew hX1.drew; have g3 := fun o => HLK (V1.alloc o).drew (hX1.alloc hX1.size o).drew; have HX1 := zab hX1; clear hbV1 hX1)))
  all_goals (go_wp2_with fail)
  all_goals clear g0 g1 g2 g3 HLK c9 hbl1
  all_goals (first
   | (show Code.wp _ _ _ _ (World.alloc V1 _); have hY := (ud HX1).alloc (ud HX1).size (.cells #[.nilIface, int i64 0, int i64 0, int i64 0] 162); generalize (V1.alloc (.cells #[.nilIface, int i64 0, int i64 0, int i64 0] 162)) = Y at *)
   | (have hY := (ud HX1).trans (below4 (w := V1) (Nat.le_refl w.heap.size) .nilIface (int i64 0) (int i64 0) (int i64 0)); generalize ((((V1.setCell ⟨w.heap.size, 0, none⟩ .nilIface).setCell ⟨w.heap.size, 1, none⟩ (int i64 0)).setCell ⟨w.heap.size, 2, none⟩ (int i64 0)).setCell ⟨w.heap.size, 3, none⟩ (int i64 0)) = Y at *))
  all_goals (have c9 := (hY.cell (p := ⟨b, 9, none⟩) hbl).trans (ud HH).cell9; have hblY := Nat.lt_of_lt_of_le hbl hY.size; have HY := zab hY; clear hY d9 HX1)
  all_goals (go_region_held3 (fun w' => w'.cell? ⟨b, 9, none⟩ = some (.map (some tb))) (go_keep) (first
   | (go_at_call 87; refine (ud (HKO _)).mono ?_; rintro e V2 ⟨rfl, hbV2⟩; have hX2 : Below w.heap.size w V2 := (by first | exact (ud HY).trans (hbV2.mono (ud HY).size) | exact (ud HY).drew.trans (hbV2.mono (ud HY).size)); have m9 := (hX2.cell (p := ⟨b, 9, none⟩) hbl).trans (ud HH).cell9; obtain ⟨o, hrun, hm, hk, ho⟩ := store_Roll ((ud HH).tasks.later hX2) (by simp only [maxLen]; omega) (ud HKW) now; have n9 : (setBlock V2 tb o).cell? ⟨b, 9, none⟩ = some (.map (some tb)) := (by have hh := hk.heap ((ud HH).later hX2).head (fun e => (ud HH).tb_ne e.symm); rw [zac hh]; rfl); have HX2 := zab hX2; have HM := zab hm; have HK2 := zab hk; clear hbV2 hX2 hm hk))
  )
  all_goals (go_wp2_with fail)
  all_goals (go_end0; exact end_store (ud HH) (ud HX2) (ud HM) (ud HK2))
theorem store_Reclaim {X : World} {tb : Nat} {TL : List (Jk × Tsk)} (h : zce tasksM X tb TL) (hr : TL.length < maxLen) {s : Sg} (hk : (⟨2, s⟩ : Jk).wf) (now : Int) :
  ∃ o, (Instr.mapUpdate 154 (.map (some tb)) (.agg #[int i64 2, int i64 s.t, int i64 s.ser, int i64 s.win]) (.agg #[.iface 177 (.agg #[int i64 s.t, int i64 s.ser, int i64 s.win]), int i64 now, int i64 0, int i64 0])).run Tryz.prog X = .ok () (setBlock X tb o) /\ zce tasksM (setBlock X tb o) tb (zer TL ⟨2, s⟩ ⟨false, s, now, 0, 0⟩) /\ zan (fun k => k = tb) X (setBlock X tb o) /\ o.isCells = false :=
 run_storeM tasks_ok h hr hk (⟨false, s, now, 0, 0⟩ : Tsk)
set_option maxRecDepth 8000 in
set_option maxHeartbeats 4000000 in
theorem post_Reclaim {w : World} {b : Nat} {c : Cf} {tv : Value} {ep num : Int} {tb qb : Nat} {TL : List (Jk × Tsk)} {QL : List (Tok × Lse)} (h : zbq w b c tv ep num tb qb TL QL) (s : Sg) (hs : s.wf) (now : Int) (hlen : TL.length <= 100000) :
  Calls Tryz.prog 95 #[.pointer (some ⟨b, 0, none⟩), .iface 177 (.agg #[int i64 s.t, int i64 s.ser, int i64 s.win]), int i64 now] w fun e w' => e = .returned (.tuple #[]) /\ zbq w' b c tv ep num tb qb (match zbm TL ⟨2, s⟩ with | some _ => TL | none => zer TL ⟨2, s⟩ ⟨false, s, now, 0, 0⟩) QL /\ zan (fun k => k = tb) w w' := by
 have hkw : (⟨2, s⟩ : Jk).wf := ⟨by unfold i64B; simp, hs⟩
 have hbl := h.lt
 have c9 := h.cell9
 have HKO := fun W => zab (keyOf_Reclaim s W)
 have HLK := fun X hX => look_task (h.tasks.later (w' := X) hX) hkw
 dsimp only at HLK
 have HH := zab h
 cases hg : zbm TL ⟨2, s⟩ with
 | some t =>
  rw [hg] at HLK
  dsimp only [Option.isSome, lookT, tskVal] at HLK
  clear h hs
  go_enter Tryz.func95, Tryz.ntmps95
  go_wp2_with fail
  go_region_held3 (fun w' => w'.cell? ⟨b, 9, none⟩ = some (.map (some tb))) (go_keep) (first
   | (go_at_call 87; refine (ud (HKO _)).mono ?_; rintro e V1 ⟨rfl, hbV1⟩; first | (have hX1 : Below w.heap.size w V1 := (by first | exact (Below.refl w.heap.size w).trans (hbV1.mono (Nat.le_refl _)) | exact ((Below.refl w.heap.size w).drew).trans (hbV1.mono (Nat.le_refl _))); have d9 := (hX1.cell (p := ⟨b, 9, none⟩) hbl).trans c9; have hbl1 := Nat.lt_of_lt_of_le hbl hX1.size; have g0 := HLK V1 hX1; have g1 := fun o => HLK (V1.alloc o) (hX1.alloc hX1.size o); have g2 := HLK V1.drew hX1.drew; have g3 := fun o => HLK (V1.alloc o).drew (hX1.alloc hX1.size o).drew; have HX1 := zab hX1; clear hbV1 hX1) | (have hX1 : Below w.heap.size w V1 := (by first | exact ((Below.refl w.heap.size w).drew.alloc (Nat.le_refl _) _).trans (hbV1.mono (by simp)) | exact (((Below.refl w.heap.size w).alloc (Nat.le_refl _) _).drew).trans (hbV1.mono (by simp))); have hq : V1.heap[w.heap.size]? = some (.cells #[.nilIface, int i64 0, int i64 0, int i64 0] 162 (0, 0)) := (by first | exact (hbV1.block _ (by simp)).trans (zap w.drew _) | exact (hbV1.block _ (by simp)).trans (zap w _)); have u0 : V1.cell? ⟨w.heap.size, 0, none⟩ = some .nilIface := (by rw [zac hq]; rfl); have u1 : V1.cell? ⟨w.heap.size, 1, none⟩ = some (int i64 0) := (by rw [zac hq]; rfl); have u2 : V1.cell? ⟨w.heap.size, 2, none⟩ = some (int i64 0) := (by rw [zac hq]; rfl); have u3 : V1.cell? ⟨w.heap.size, 3, none⟩ = some (int i64 0) := (by rw [zac hq]; rfl); have uf := fun j => zaz hq j; have hul := zaa hq; have hub : ¬ b = w.heap.size := (by omega); have hub2 : ¬ w.heap.size = b := (by omega); have HQ := zab hq; clear hq; have d9 := (hX1.cell (p := ⟨b, 9, none⟩) hbl).trans c9; have hbl1 := Nat.lt_of_lt_of_le hbl hX1.size; have g0 := HLK V1 hX1; have g1 := fun o => HLK (V1.alloc o) (hX1.alloc hX1.size o); have g2 := HLK V1.drew hX1.drew; have g3 := fun o => HLK (V1.alloc o).drew (hX1.alloc hX1.size o).drew; have HX1 := zab hX1; clear hbV1 hX1)))
  all_goals (go_wp2_with fail)
  all_goals (go_end0; first | exact post_end (ud HH) ((ud HX1).alloc (ud HX1).size _) | exact post_end (ud HH) ((ud HX1).trans (below4 (Nat.le_refl _) _ _ _ _)))
 | none =>
  rw [hg] at HLK
  dsimp only [Option.isSome, lookT] at HLK
  have HKW := zab hkw
  clear h hs
  go_enter Tryz.func95, Tryz.ntmps95
  go_wp2_with fail
  go_region_held3 (fun w' => w'.cell? ⟨b, 9, none⟩ = some (.map (some tb))) (go_keep) (first
   | (go_at_call 87; refine (ud (HKO _)).mono ?_; rintro e V1 ⟨rfl, hbV1⟩; first | (have hX1 : Below w.heap.size w V1 := (by first | exact (Below.refl w.heap.size w).trans (hbV1.mono (Nat.le_refl _)) | exact ((Below.refl w.heap.size w).drew).trans (hbV1.mono (Nat.le_refl _))); have d9 := (hX1.cell (p := ⟨b, 9, none⟩) hbl).trans c9; have hbl1 := Nat.lt_of_lt_of_le hbl hX1.size; have g0 := HLK V1 hX1; have g1 := fun o => HLK (V1.alloc o) (hX1.alloc hX1.size o); have g2 := HLK V1.drew hX1.drew; have g3 := fun o => HLK (V1.alloc o).drew (hX1.alloc hX1.size o).drew; have HX1 := zab hX1; clear hbV1 hX1) | (have hX1 : Below w.heap.size w V1 := (by first | exact ((Below.refl w.heap.size w).drew.alloc (Nat.le_refl _) _).trans (hbV1.mono (by simp)) | exact (((Below.refl w.heap.size w).alloc (Nat.le_refl _) _).drew).trans (hbV1.mono (by simp))); have hq : V1.heap[w.heap.size]? = some (.cells #[.nilIface, int i64 0, int i64 0, int i64 0] 162 (0, 0)) := (by first | exact (hbV1.block _ (by simp)).trans (zap w.drew _) | exact (hbV1.block _ (by simp)).trans (zap w _)); have u0 : V1.cell? ⟨w.heap.size, 0, none⟩ = some .nilIface := (by rw [zac hq]; rfl); have u1 : V1.cell? ⟨w.heap.size, 1, none⟩ = some (int i64 0) := (by rw [zac hq]; rfl); have u2 : V1.cell? ⟨w.heap.size, 2, none⟩ = some (int i64 0) := (by rw [zac hq]; rfl); have u3 : V1.cell? ⟨w.heap.size, 3, none⟩ = some (int i64 0) := (by rw [zac hq]; rfl); have uf := fun j => zaz hq j; have hul := zaa hq; have hub : ¬ b = w.heap.size := (by omega); have hub2 : ¬ w.heap.size = b := (by omega); have HQ := zab hq; clear hq; have d9 := (hX1.cell (p := ⟨b, 9, none⟩) hbl).trans c9; have hbl1 := Nat.lt_of_lt_of_le hbl hX1.size; have g0 := HLK V1 hX1; have g1 := fun o => HLK (V1.alloc o) (hX1.alloc hX1.size o); have g2 := HLK V1.drew hX1.drew; have g3 := fun o => HLK (V1.alloc o).drew (hX1.alloc hX1.size o).drew; have HX1 := zab hX1; clear hbV1 hX1)))
  all_goals (go_wp2_with fail)
  all_goals clear g0 g1 g2 g3 HLK c9 hbl1
  all_goals (first
   | (show Code.wp _ _ _ _ (World.alloc V1 _); have hY := (ud HX1).alloc (ud HX1).size (.cells #[.nilIface, int i64 0, int i64 0, int i64 0] 162); generalize (V1.alloc (.cells #[.nilIface, int i64 0, int i64 0, int i64 0] 162)) = Y at *)
   | (have hY := (ud HX1).trans (below4 (w := V1) (Nat.le_refl w.heap.size) .nilIface (int i64 0) (int i64 0) (int i64 0)); generalize ((((V1.setCell ⟨w.heap.size, 0, none⟩ .nilIface).setCell ⟨w.heap.size, 1, none⟩ (int i64 0)).setCell ⟨w.heap.size, 2, none⟩ (int i64 0)).setCell ⟨w.heap.size, 3, none⟩ (int i64 0)) = Y at *))
  all_goals (have c9 := (hY.cell (p := ⟨b, 9, none⟩) hbl).trans (ud HH).cell9; have hblY := Nat.lt_of_lt_of_le hbl hY.size; have HY := zab hY; clear hY d9 HX1)
  all_goals (go_region_held3 (fun w' => w'.cell? ⟨b, 9, none⟩ = some (.map (some tb))) (go_keep) (first
   | (go_at_call 87; refine (ud (HKO _)).mono ?_; rintro e V2 ⟨rfl, hbV2⟩; have hX2 : Below w.heap.size w V2 := (by first | exact (ud HY).trans (hbV2.mono (ud HY).size) | exact (ud HY).drew.trans (hbV2.mono (ud HY).size)); have m9 := (hX2.cell (p := ⟨b, 9, none⟩) hbl).trans (ud HH).cell9; obtain ⟨o, hrun, hm, hk, ho⟩ := store_Reclaim ((ud HH).tasks.later hX2) (by simp only [maxLen]; omega) (ud HKW) now; have n9 : (setBlock V2 tb o).cell? ⟨b, 9, none⟩ = some (.map (some tb)) := (by have hh := hk.heap ((ud HH).later hX2).head (fun e => (ud HH).tb_ne e.symm); rw [zac hh]; rfl); have HX2 := zab hX2; have HM := zab hm; have HK2 := zab hk; clear hbV2 hX2 hm hk))
  )
  all_goals (go_wp2_with fail)
  all_goals (go_end0; exact end_store (ud HH) (ud HX2) (ud HM) (ud HK2))
end Go.Proofs.YtpbimdkclnekeaaGreat
