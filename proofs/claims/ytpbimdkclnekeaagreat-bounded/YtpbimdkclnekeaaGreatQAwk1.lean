import Derived.Test.YtpbimdkclnekeaaGreatQMod2
import Derived.Test.YtpbimdkclnekeaaGreatQCop0
import Derived.Test.YtpbimdkclnekeaaGreatQMlz6
import Derived.Test.YtpbimdkclnekeaaGreatQMlz7
import Derived.Test.YtpbimdkclnekeaaGreatQOrd3
import Derived.Test.YtpbimdkclnekeaaGreatQCfg1

namespace Go.Proofs.YtpbimdkclnekeaaGreat
open Go.RowKit Go.Maps Go.Shelf
set_option linter.unusedVariables false

theorem aw_ing {w : World} {i : Ids} (h : MillAt w i awC 1 ⟨0, [], [], 0, [], []⟩) :
    Calls Tryz.prog 59 #[.pointer (some ⟨i.x, 0, none⟩), .int .i64 1, .int .i64 0, .int .i32 7] w fun e w' => e = .returned (.int .i64 0) ∧ MillAt w' i awC 1 awM1 ∧ Kept (mfoot i) w w' :=
  (ming_ok h awC_ok 1 0 7 (by omega) (by dsimp only; omega) (by decide) (by decide) (by omega) (by decide) (by intro p hp; cases hp) (fun k hk => rfl) (by decide) (by decide) (by intro p hp; cases hp)).mono fun e w' ⟨a, b, d⟩ => ⟨a, b, d.mono (fun k _ e => .inr (.inl (.inr (.inr (.inl e)))))⟩
theorem aw_tick {w : World} {i : Ids} (h : MillAt w i awC 1 awM1) :
    Calls Tryz.prog 36 #[.pointer (some ⟨i.x, 0, none⟩), .int .i64 6] w fun e w' => e = .returned (.int .i64 0) ∧ MillAt w' i awC 1 awM2 ∧ Kept (mfoot i) w w' := by
  refine (mtick_good h awC_ok 6 (by omega) (by decide) ⟨(fun p hp => by cases hp), (fun p hp => by cases hp), (fun p hp => by cases hp), by decide, by decide, by decide⟩ ?_ (by decide) ?_).mono ?_
  · intro p hp
    simp [awM1, awL1] at hp
    rcases hp with rfl | rfl
    · exact aw_inR
    · exact aw_inT
  · intro T Q he
    rw [(exps_nil he).1]; simp
  · rintro e w' ⟨h1, TL1, QL1, TL', h2, h3, h4, h5, h6⟩
    obtain ⟨e1, e2⟩ := exps_nil h4
    subst e1
    subst e2
    have e3 := aw_post1 h6
    subst e3
    exact ⟨h1, h2, h3⟩
theorem aw_pick {w : World} {i : Ids} {m : MS} (h : MillAt w i awC 1 m) {k : Jk} {x : Tsk} (hT : m.TL = [(k, x)]) (hQ : m.QL = []) (hn : m.now = 6) (hx : TskIn awC 6 x) (hr : x.rest ≤ 6) (hnum : m.num = 0 ∨ m.num = 1) (hu : 0 ≤ usedL m.L ∧ usedL m.L ≤ 1000) :
    Calls Tryz.prog 16 #[.pointer (some ⟨i.x, 0, none⟩), .int .i64 0] w fun e w' => e = .returned (.tuple #[.agg #[.int .i64 x.kd, .int .i64 x.s.t, .int .i64 x.s.ser, .int .i64 x.s.win, .int .i64 x.since, .int .i64 x.tries, .int .i64 x.rest, .int .i64 1, .int .i64 (m.num + 1), .int .i64 0, .int .i64 15], .int .i64 0]) ∧ MillAt w' i awC 1 { m with num := m.num + 1, QL := putM m.QL ⟨1, m.num + 1⟩ ⟨x.kd, x.s, 0, 15⟩ } ∧ Kept (mfoot i) w w' := by
  refine (mpick_any h awC_ok 0 (by decide) (by omega) ?_ (by rw [hQ]; simp) (by omega) (by unfold i64B; omega) (by rw [hQ]; intro q hq; cases hq) hu).mono ?_
  · intro p hp
    rw [hT] at hp
    simp at hp
    subst hp
    rw [hn]; exact hx
  · rintro e w' (⟨_, _, h3⟩ | ⟨_, _, h3⟩ | ⟨p, hp, _, he, hm, hk⟩)
    · rw [hQ] at h3; simp at h3
    · have := h3 (k, x) (by rw [hT]; simp)
      unfold freeB at this
      rw [hQ, hn] at this
      simp [leasedB, hr] at this
    · rw [hT] at hp
      simp at hp
      subst hp
      have h9 : m.now + awC.le = 15 := by rw [hn]; rfl
      rw [h9] at he hm
      exact ⟨he, hm, hk⟩
theorem aw_pick1 {w : World} {i : Ids} (h : MillAt w i awC 1 awM2) :
    Calls Tryz.prog 16 #[.pointer (some ⟨i.x, 0, none⟩), .int .i64 0] w fun e w' => e = .returned (.tuple #[.agg #[.int .i64 1, .int .i64 0, .int .i64 1, .int .i64 0, .int .i64 6, .int .i64 0, .int .i64 0, .int .i64 1, .int .i64 1, .int .i64 0, .int .i64 15], .int .i64 0]) ∧ MillAt w' i awC 1 awM3 ∧ Kept (mfoot i) w w' :=
  aw_pick (m := awM2) h rfl rfl rfl ⟨by decide, by decide, by decide, by decide⟩ (by decide) (.inl rfl) (by decide)
theorem aw_pick2 {w : World} {i : Ids} (h : MillAt w i awC 1 awM4) :
    Calls Tryz.prog 16 #[.pointer (some ⟨i.x, 0, none⟩), .int .i64 0] w fun e w' => e = .returned (.tuple #[.agg #[.int .i64 2, .int .i64 (-1), .int .i64 1, .int .i64 0, .int .i64 6, .int .i64 0, .int .i64 0, .int .i64 1, .int .i64 2, .int .i64 0, .int .i64 15], .int .i64 0]) ∧ MillAt w' i awC 1 awM5 ∧ Kept (mfoot i) w w' :=
  aw_pick (m := awM4) h rfl rfl rfl ⟨by decide, by decide, by decide, by decide⟩ (by decide) (.inr rfl) (by decide)
theorem aw_com1 {w : World} {i : Ids} (h : MillAt w i awC 1 awM3) :
    Calls Tryz.prog 18 #[.pointer (some ⟨i.x, 0, none⟩), .agg #[.int .i64 1, .int .i64 1]] w fun e w' => e = .returned (.int .i64 0) ∧ MillAt w' i awC 1 awM4 ∧ Kept (mfoot i) w w' := by
  refine (commit_Roll h awC_ok ⟨1, 1⟩ (by unfold Tok.wf i64B; dsimp only; omega) (g := ⟨1, awT, 0, 15⟩) rfl (by unfold Jk.wf Lse.job i64B; exact ⟨by dsimp only; omega, aw_inT.1⟩) awT 6 0 0 rfl aw_inT 0 rfl (by decide) (by decide) ?_ (by decide) (by decide) (by decide)).mono ?_
  · rw [show putL awM3.L awT ⟨3, joinL (standL awC awM3.L awT.ser awT.win 0)⟩ = awL2 from aw_roll]
    intro p hp
    simp [awL2] at hp
    rcases hp with rfl | rfl
    · exact aw_inR
    · exact aw_inT
  · rw [show putL awM3.L awT ⟨3, joinL (standL awC awM3.L awT.ser awT.win 0)⟩ = awL2 from aw_roll]
    rintro e w' ⟨h1, TL', h2, h3, h4⟩
    have e3 := aw_post2 (num := 1) h4
    subst e3
    exact ⟨h1, h2, h3⟩
theorem aw_com2 {w : World} {i : Ids} (h : MillAt w i awC 1 awM5) :
    Calls Tryz.prog 18 #[.pointer (some ⟨i.x, 0, none⟩), .agg #[.int .i64 1, .int .i64 2]] w fun e w' => e = .returned (.int .i64 0) ∧ (∃ TL', MillAt w' i awC 1 ⟨6, awL3, [(awR, ())], 2, TL', []⟩) ∧ Kept (mfoot i) w w' := by
  refine (commit_Reclaim h awC_ok ⟨1, 2⟩ (by unfold Tok.wf i64B; dsimp only; omega) (g := ⟨2, awR, 0, 15⟩) rfl (by unfold Jk.wf Lse.job i64B; exact ⟨by dsimp only; omega, aw_inR.1⟩) awR 6 0 0 rfl aw_inR (by decide) (by decide) ?_ (by decide) (by decide) (by decide)).mono ?_
  · intro p hp
    rw [show delM awM5.L awR = awL3 from rfl] at hp
    simp [awL3] at hp
    rcases hp with rfl
    exact aw_inT
  · rintro e w' ⟨h1, TL', h2, h3, h4⟩
    exact ⟨h1, ⟨TL', h2⟩, h3⟩
theorem aw_q1 {w : World} {i : Ids} {TL' : List (Jk × Tsk)} (h : MillAt w i awC 1 ⟨6, awL3, [(awR, ())], 2, TL', []⟩) :
    Calls Tryz.prog 60 #[.pointer (some ⟨i.x, 0, none⟩), .int .i64 0, .int .i64 1, .int .i64 0] w fun e w' => e = .returned (.tuple #[.agg #[.int .i64 1, .int .i64 7, .int .i32 7, .int .i32 7], .int .i64 0]) ∧ Below w.heap.size w w' := mquery_any h awC_ok (by dsimp only; omega) 0 1 0 (by decide) (by decide) (by decide)
theorem aw_q2 {w : World} {i : Ids} {TL' : List (Jk × Tsk)} (h : MillAt w i awC 1 ⟨6, awL3, [(awR, ())], 2, TL', []⟩) :
    Calls Tryz.prog 60 #[.pointer (some ⟨i.x, 0, none⟩), .int .i64 (-1), .int .i64 1, .int .i64 0] w fun e w' => e = .returned (.tuple #[.agg #[.int .i64 0, .int .i64 0, .int .i32 0, .int .i32 0], .int .i64 12]) ∧ Below w.heap.size w w' := mquery_any h awC_ok (by dsimp only; omega) (-1) 1 0 (by decide) (by decide) (by decide)
end Go.Proofs.YtpbimdkclnekeaaGreat

namespace Go.Proofs.YtpbimdkclnekeaaGreat
open Go.RowKit Go.Maps Go.Shelf
set_option linter.unusedVariables false
theorem aw_ts {W : World} {ta : Nat} (h : W.heap[ta]? = some (.cells #[.int .i64 (-1), .int .i64 2, .int .i64 100] 66 (0, 0))) : TS W (some ⟨ta, 0, none⟩) awC.n awC.F awC.W awC.K := fun _ => by
  refine ⟨ta, 0, rfl, lt_of_heap h, fun i hi => ?_⟩
  obtain rfl : i = 0 := by have : awC.n = 1 := rfl; omega
  exact ⟨by rw [rcell h]; rfl, by rw [rcell h]; rfl, by rw [rcell h]; rfl⟩
theorem aw_kb {w M M1 : World} {i : Ids} (hb : Below w.heap.size w M) (hk : Kept (mfoot i) M M1) (hlo : ∀ k, mfoot i k → w.heap.size ≤ k) : Below w.heap.size w M1 := hb.trans (hk.below hb.size hlo)
/-- what the awakening mill's Open leaves, at a new disk p. -/
theorem aw_open {D : World} {p B ta : Nat} (hd : DiskAt 119 185 B D p newS (.slice none 0 0)) (hB : B ≤ D.heap.size) (ht : D.heap[ta]? = some (.cells #[.int .i64 (-1), .int .i64 2, .int .i64 100] 66 (0, 0))) :
    Hid (Calls Tryz.prog 26 #[.agg #[.int .i64 1, .int .i64 9, .int .i64 0, .int .i64 2, .int .i64 4, .int .i64 9, .slice (some ⟨ta, 0, none⟩) 1 1], .pointer (some ⟨p, 0, none⟩)] D fun e M => ∃ i : Ids, e = .returned (.tuple #[.pointer (some ⟨i.x, 0, none⟩), .int .i64 0]) ∧ MillAt M i awC 1 ⟨0, [], [], 0, [], []⟩ ∧ Kept (fun k => k = p) D M ∧ ∀ k, mfoot i k → D.heap.size ≤ k) := by
  have hpt : p ≠ ta := fun e => by
    have h1 := hd.head
    rw [e, ht] at h1
    cases h1
  refine hide ((popen_any awC awC_ok awC_right (some ⟨ta, 0, none⟩) 1 B p (.slice none 0 0) D hB hd (fun w' hk => aw_ts (hk.heap ht (fun e => ?_)))).mono ?_)
  · rcases e with e | e
    · exact hpt e.symm
    · cases e
  · rintro e M ⟨i, fs', h1, h2, _, h4, _, h6⟩
    exact ⟨i, h1, h2, h4.mono (fun k _ e => by rcases e with e | e; exact e; cases e), fun k hk => (h6 k hk).1⟩
theorem aw_kc {X D M : World} {b : Nat} (hk : Kept (fun k => k = X.heap.size) D M) (hz : D.heap.size = X.heap.size + 1) (hb : b < X.heap.size) (j : Nat) : M.cell? ⟨b, j, none⟩ = D.cell? ⟨b, j, none⟩ := kept_cell hk (show ¬ b = X.heap.size by omega) (by omega)
set_option maxRecDepth 20000 in
set_option maxHeartbeats 4000000 in
theorem awake_any (w : World) : Calls Tryz.prog 23 #[] w fun e w' => e = .returned (.bool true) ∧ Below w.heap.size w w' := by
  obtain ⟨y0, y1, hbw, yz⟩ := box2 w (.cells #[.int .i64 (-1), .int .i64 2, .int .i64 100] 66) (.cells #[.int .i64 1, .int .i64 9, .int .i64 0, .int .i64 2, .int .i64 4, .int .i64 9, .slice (some ⟨w.heap.size, 0, none⟩) 1 1] 27)
  have c0 : ((w.alloc (.cells #[.int .i64 (-1), .int .i64 2, .int .i64 100] 66)).alloc (.cells #[.int .i64 1, .int .i64 9, .int .i64 0, .int .i64 2, .int .i64 4, .int .i64 9, .slice (some ⟨w.heap.size, 0, none⟩) 1 1] 27)).cell? ⟨w.heap.size + 1, 0, none⟩ = some (.int .i64 1) := by rw [rcell y1]; rfl
  have c1 : ((w.alloc (.cells #[.int .i64 (-1), .int .i64 2, .int .i64 100] 66)).alloc (.cells #[.int .i64 1, .int .i64 9, .int .i64 0, .int .i64 2, .int .i64 4, .int .i64 9, .slice (some ⟨w.heap.size, 0, none⟩) 1 1] 27)).cell? ⟨w.heap.size + 1, 1, none⟩ = some (.int .i64 9) := by rw [rcell y1]; rfl
  have c2 : ((w.alloc (.cells #[.int .i64 (-1), .int .i64 2, .int .i64 100] 66)).alloc (.cells #[.int .i64 1, .int .i64 9, .int .i64 0, .int .i64 2, .int .i64 4, .int .i64 9, .slice (some ⟨w.heap.size, 0, none⟩) 1 1] 27)).cell? ⟨w.heap.size + 1, 2, none⟩ = some (.int .i64 0) := by rw [rcell y1]; rfl
  have c3 : ((w.alloc (.cells #[.int .i64 (-1), .int .i64 2, .int .i64 100] 66)).alloc (.cells #[.int .i64 1, .int .i64 9, .int .i64 0, .int .i64 2, .int .i64 4, .int .i64 9, .slice (some ⟨w.heap.size, 0, none⟩) 1 1] 27)).cell? ⟨w.heap.size + 1, 3, none⟩ = some (.int .i64 2) := by rw [rcell y1]; rfl
  have c4 : ((w.alloc (.cells #[.int .i64 (-1), .int .i64 2, .int .i64 100] 66)).alloc (.cells #[.int .i64 1, .int .i64 9, .int .i64 0, .int .i64 2, .int .i64 4, .int .i64 9, .slice (some ⟨w.heap.size, 0, none⟩) 1 1] 27)).cell? ⟨w.heap.size + 1, 4, none⟩ = some (.int .i64 4) := by rw [rcell y1]; rfl
  have c5 : ((w.alloc (.cells #[.int .i64 (-1), .int .i64 2, .int .i64 100] 66)).alloc (.cells #[.int .i64 1, .int .i64 9, .int .i64 0, .int .i64 2, .int .i64 4, .int .i64 9, .slice (some ⟨w.heap.size, 0, none⟩) 1 1] 27)).cell? ⟨w.heap.size + 1, 5, none⟩ = some (.int .i64 9) := by rw [rcell y1]; rfl
  have c6 : ((w.alloc (.cells #[.int .i64 (-1), .int .i64 2, .int .i64 100] 66)).alloc (.cells #[.int .i64 1, .int .i64 9, .int .i64 0, .int .i64 2, .int .i64 4, .int .i64 9, .slice (some ⟨w.heap.size, 0, none⟩) 1 1] 27)).cell? ⟨w.heap.size + 1, 6, none⟩ = some (.slice (some ⟨w.heap.size, 0, none⟩) 1 1) := by rw [rcell y1]; rfl
  have Y0 := hide y0
  have HBW := hide hbw
  have YZ := hide yz
  have hl1 := lt_of_heap y1
  have hl0 := lt_of_heap y0
  clear y0 y1 hbw yz
  go_enter Tryz.func23, Tryz.ntmps23
  go_wp2_with fail
  generalize ((w.alloc (.cells #[.int .i64 (-1), .int .i64 2, .int .i64 100] 66)).alloc (.cells #[.int .i64 1, .int .i64 9, .int .i64 0, .int .i64 2, .int .i64 4, .int .i64 9, .slice (some ⟨w.heap.size, 0, none⟩) 1 1] 27)) = X at *
  have hwx : w.heap.size + 1 < X.heap.size := hl1
  have HN := fun W (hB : X.heap.size ≤ W.heap.size) => hide (new_any X.heap.size W hB)
  have HO := fun D (h1 : DiskAt 119 185 X.heap.size D X.heap.size newS (.slice none 0 0)) (h2 : Below X.heap.size X D) => aw_open (ta := w.heap.size) h1 h2.size ((h2.block _ hl0).trans (unhide Y0))
  go_region_held3 (fun w' => w'.cell? ⟨w.heap.size + 1, 0, none⟩ = some (.int .i64 1) ∧ w'.cell? ⟨w.heap.size + 1, 1, none⟩ = some (.int .i64 9) ∧ w'.cell? ⟨w.heap.size + 1, 2, none⟩ = some (.int .i64 0) ∧ w'.cell? ⟨w.heap.size + 1, 3, none⟩ = some (.int .i64 2) ∧ w'.cell? ⟨w.heap.size + 1, 4, none⟩ = some (.int .i64 4) ∧ w'.cell? ⟨w.heap.size + 1, 5, none⟩ = some (.int .i64 9) ∧ w'.cell? ⟨w.heap.size + 1, 6, none⟩ = some (.slice (some ⟨w.heap.size, 0, none⟩) 1 1)) (go_keep) (first
    | (go_at_call 25; (with_reducible refine (unhide (HN _ ?hb)).mono ?_); (case hb => exact Nat.le_refl _); rintro e D ⟨rfl, hD, hb0, hz0⟩; have hbD : Below X.heap.size X D := ⟨hb0.os, hb0.tape, hb0.output, hb0.size, hb0.block⟩; have hzD : D.heap.size = X.heap.size + 1 := hz0; have d0 : D.cell? ⟨w.heap.size + 1, 0, none⟩ = some (.int .i64 1) := (hbD.cell (p := ⟨w.heap.size + 1, 0, none⟩) hwx).trans c0; have d1 : D.cell? ⟨w.heap.size + 1, 1, none⟩ = some (.int .i64 9) := (hbD.cell (p := ⟨w.heap.size + 1, 1, none⟩) hwx).trans c1; have d2 : D.cell? ⟨w.heap.size + 1, 2, none⟩ = some (.int .i64 0) := (hbD.cell (p := ⟨w.heap.size + 1, 2, none⟩) hwx).trans c2; have d3 : D.cell? ⟨w.heap.size + 1, 3, none⟩ = some (.int .i64 2) := (hbD.cell (p := ⟨w.heap.size + 1, 3, none⟩) hwx).trans c3; have d4 : D.cell? ⟨w.heap.size + 1, 4, none⟩ = some (.int .i64 4) := (hbD.cell (p := ⟨w.heap.size + 1, 4, none⟩) hwx).trans c4; have d5 : D.cell? ⟨w.heap.size + 1, 5, none⟩ = some (.int .i64 9) := (hbD.cell (p := ⟨w.heap.size + 1, 5, none⟩) hwx).trans c5; have d6 : D.cell? ⟨w.heap.size + 1, 6, none⟩ = some (.slice (some ⟨w.heap.size, 0, none⟩) 1 1) := (hbD.cell (p := ⟨w.heap.size + 1, 6, none⟩) hwx).trans c6; have HD : Hid (DiskAt 119 185 X.heap.size D X.heap.size newS (.slice none 0 0)) := hD; have HBD := hide hbD; have HZD := hide hzD; clear hD hb0 hbD hz0 hzD HN)
    | (go_at_call 26; (first | (with_reducible refine (unhide (HO _ (unhide HD) (unhide HBD))).mono ?_) | refine (unhide (HO _ (unhide HD) (unhide HBD))).mono ?_); rintro e M ⟨i, rfl, hM, hk, hlo⟩; have m0 : M.cell? ⟨w.heap.size + 1, 0, none⟩ = some (.int .i64 1) := (aw_kc hk (unhide HZD) hwx 0).trans d0; have m1 : M.cell? ⟨w.heap.size + 1, 1, none⟩ = some (.int .i64 9) := (aw_kc hk (unhide HZD) hwx 1).trans d1; have m2 : M.cell? ⟨w.heap.size + 1, 2, none⟩ = some (.int .i64 0) := (aw_kc hk (unhide HZD) hwx 2).trans d2; have m3 : M.cell? ⟨w.heap.size + 1, 3, none⟩ = some (.int .i64 2) := (aw_kc hk (unhide HZD) hwx 3).trans d3; have m4 : M.cell? ⟨w.heap.size + 1, 4, none⟩ = some (.int .i64 4) := (aw_kc hk (unhide HZD) hwx 4).trans d4; have m5 : M.cell? ⟨w.heap.size + 1, 5, none⟩ = some (.int .i64 9) := (aw_kc hk (unhide HZD) hwx 5).trans d5; have m6 : M.cell? ⟨w.heap.size + 1, 6, none⟩ = some (.slice (some ⟨w.heap.size, 0, none⟩) 1 1) := (aw_kc hk (unhide HZD) hwx 6).trans d6; have HM := hide hM; have HK := hide hk; have HLO := hide hlo; clear hM hk hlo))
  have hbD2 := unhide HBD
  have hlo : ∀ k, mfoot i k → w.heap.size ≤ k := fun k hk => Nat.le_trans (unhide HBW).size (Nat.le_trans hbD2.size (unhide HLO k hk))
  have hbD3 := (unhide HBW).trans (hbD2.mono (unhide HBW).size)
  have HBM := hide (hbD3.trans ((unhide HK).below hbD3.size (fun k e => by have := (unhide HBW).size; have e' : k = X.heap.size := e; omega)))
  have HLW := hide hlo
  clear hbD2 hlo hbD3 c0 d0 m0 c1 d1 m1 c2 d2 m2 c3 d3 m3 c4 d4 m4 c5 d5 m5 c6 d6 m6
  go_wp2_with (first
    | (go_at_call 59; refine (aw_ing (unhide HM)).mono ?_; rintro e M1 ⟨rfl, hm1, hk1⟩; have HM1 := hide hm1; have HB1 := hide (aw_kb (unhide HBM) hk1 (unhide HLW)); clear hm1 hk1)
    | (go_at_call 36; refine (aw_tick (unhide HM1)).mono ?_; rintro e M2 ⟨rfl, hm1, hk1⟩; have HM2 := hide hm1; have HB2 := hide (aw_kb (unhide HB1) hk1 (unhide HLW)); clear hm1 hk1)
    | (go_at_call 16; refine (aw_pick1 (unhide HM2)).mono ?_; rintro e M3 ⟨rfl, hm1, hk1⟩; have hb3 := aw_kb (unhide HB2) hk1 (unhide HLW); have hA := (Below.refl M3.heap.size M3).alloc (Nat.le_refl _) (.cells #[.int .i64 1, .int .i64 0, .int .i64 1, .int .i64 0, .int .i64 6, .int .i64 0, .int .i64 0, .int .i64 1, .int .i64 1, .int .i64 0, .int .i64 15] 51); have HM3 := hide (hm1.later hA); have HB3 := hide (hb3.alloc hb3.size (.cells #[.int .i64 1, .int .i64 0, .int .i64 1, .int .i64 0, .int .i64 6, .int .i64 0, .int .i64 0, .int .i64 1, .int .i64 1, .int .i64 0, .int .i64 15] 51)); have HI3 := hide (rlast M3 (.cells #[.int .i64 1, .int .i64 0, .int .i64 1, .int .i64 0, .int .i64 6, .int .i64 0, .int .i64 0, .int .i64 1, .int .i64 1, .int .i64 0, .int .i64 15] 51)); have HN3 : Hid (¬ mfoot i M3.heap.size) := (fun e => absurd (hm1.foot_lt _ e) (by omega)); clear hm1 hk1 hb3 hA HM2)
    | (go_at_call 18; refine (aw_com1 (unhide HM3)).mono ?_; rintro e M4 ⟨rfl, hm1, hk1⟩; have HM4 := hide hm1; have HB4 := hide (aw_kb (unhide HB3) hk1 (unhide HLW)); have HI4 := hide (hk1.heap (unhide HI3) (unhide HN3)); clear hm1 hk1 HM3)
    | (go_at_call 16; refine (aw_pick2 (unhide HM4)).mono ?_; rintro e M5 ⟨rfl, hm1, hk1⟩; have hb3 := aw_kb (unhide HB4) hk1 (unhide HLW); have hA := (Below.refl M5.heap.size M5).alloc (Nat.le_refl _) (.cells #[.int .i64 2, .int .i64 (-1), .int .i64 1, .int .i64 0, .int .i64 6, .int .i64 0, .int .i64 0, .int .i64 1, .int .i64 2, .int .i64 0, .int .i64 15] 51); have HM5 := hide (hm1.later hA); have HB5 := hide (hb3.alloc hb3.size (.cells #[.int .i64 2, .int .i64 (-1), .int .i64 1, .int .i64 0, .int .i64 6, .int .i64 0, .int .i64 0, .int .i64 1, .int .i64 2, .int .i64 0, .int .i64 15] 51)); have HI5 := hide ((Below.heap_alloc _ (.cells #[.int .i64 2, .int .i64 (-1), .int .i64 1, .int .i64 0, .int .i64 6, .int .i64 0, .int .i64 0, .int .i64 1, .int .i64 2, .int .i64 0, .int .i64 15] 51) _ (lt_of_heap (hk1.heap (unhide HI4) (unhide HN3)))).trans (hk1.heap (unhide HI4) (unhide HN3))); have HJ5 := hide (rlast M5 (.cells #[.int .i64 2, .int .i64 (-1), .int .i64 1, .int .i64 0, .int .i64 6, .int .i64 0, .int .i64 0, .int .i64 1, .int .i64 2, .int .i64 0, .int .i64 15] 51)); have HN5 : Hid (¬ mfoot i M5.heap.size) := (fun e => absurd (hm1.foot_lt _ e) (by omega)); clear hm1 hk1 hb3 hA HM4)
    | (go_at_call 18; refine (aw_com2 (unhide HM5)).mono ?_; rintro e M6 ⟨rfl, ⟨TL', hm1⟩, hk1⟩; have HM6 := hide hm1; have HB6 := hide (aw_kb (unhide HB5) hk1 (unhide HLW)); have HI6 := hide (hk1.heap (unhide HI5) (unhide HN3)); have HJ6 := hide (hk1.heap (unhide HJ5) (unhide HN5)); clear hm1 hk1 HM5)
    | (go_at_call 60; refine (aw_q1 (unhide HM6)).mono ?_; rintro e M7 ⟨rfl, hb7⟩; have hA := (Below.refl M7.heap.size M7).alloc (Nat.le_refl _) (.cells #[.int .i64 1, .int .i64 7, .int .i32 7, .int .i32 7] 114); have hb8 := hb7.alloc hb7.size (.cells #[.int .i64 1, .int .i64 7, .int .i32 7, .int .i32 7] 114); have HM7 := hide ((unhide HM6).later hb8); have HB7 := hide ((unhide HB6).trans (hb8.mono (unhide HB6).size)); have HI7 := hide ((hb8.block _ (lt_of_heap (unhide HI6))).trans (unhide HI6)); have HJ7 := hide ((hb8.block _ (lt_of_heap (unhide HJ6))).trans (unhide HJ6)); have HD7 := hide (rlast M7 (.cells #[.int .i64 1, .int .i64 7, .int .i32 7, .int .i32 7] 114)); clear hb7 hb8 hA HM6)
    | (go_at_call 60; refine (aw_q2 (unhide HM7)).mono ?_; rintro e M8 ⟨rfl, hb8⟩; have HB8 := hide ((unhide HB7).trans (hb8.mono (unhide HB7).size)); have hi8 := (hb8.block _ (lt_of_heap (unhide HI7))).trans (unhide HI7); have hj8 := (hb8.block _ (lt_of_heap (unhide HJ7))).trans (unhide HJ7); have hd8 := (hb8.block _ (lt_of_heap (unhide HD7))).trans (unhide HD7); have i0 : M8.cell? ⟨M3.heap.size, 0, none⟩ = some (.int .i64 1) := (by rw [rcell hi8]; rfl); have j0 : M8.cell? ⟨M5.heap.size, 0, none⟩ = some (.int .i64 2) := (by rw [rcell hj8]; rfl); have d0 : M8.cell? ⟨M7.heap.size, 0, none⟩ = some (.int .i64 1) := (by rw [rcell hd8]; rfl); have d1 : M8.cell? ⟨M7.heap.size, 1, none⟩ = some (.int .i64 7) := (by rw [rcell hd8]; rfl); have li := lt_of_heap hi8; have lj := lt_of_heap hj8; have ld := lt_of_heap hd8; clear hb8 hi8 hj8 hd8 HM7))
  go_ret
  exact ⟨rfl, (unhide HB8).alloc (unhide HB8).size _⟩
end Go.Proofs.YtpbimdkclnekeaaGreat

namespace Go.Proofs.YtpbimdkclnekeaaGreat
open Go.RowKit Go.Maps Go.Shelf
set_option linter.unusedVariables false
/-- what opened leaves: a shop of a right configuration, at block p. -/
def opdPost (w : World) (e : Ending) (w' : World) : Prop := ∃ (c : Cf) (p : Nat), c.ok ∧ c.fits ∧ e = .returned (.pointer (some ⟨p, 0, none⟩)) ∧ Shop w' w.heap.size p c 1 ⟨0, [], [], 0, [], []⟩ [] 0 ∧ Below w.heap.size w w'
theorem opd_ne {a b j : Nat} (hz : a = b + 2) (hj : a ≤ j) (e : foot (b + 1) (.slice none 0 0) j) : False := by
  rcases e with e | e
  · omega
  · cases e
set_option maxRecDepth 20000 in
set_option maxHeartbeats 4000000 in
theorem opened_any (s le la wi ke qu : Int) (a : Option Addr) (n cap : Nat) (F0 W0 K0 : Nat → Int) (w : World) (h1 : -9223372036854775808 ≤ s ∧ s ≤ 9223372036854775807) (h2 : -9223372036854775808 ≤ le ∧ le ≤ 9223372036854775807) (h3 : -9223372036854775808 ≤ la ∧ la ≤ 9223372036854775807) (h4 : -9223372036854775808 ≤ wi ∧ wi ≤ 9223372036854775807) (h5 : -9223372036854775808 ≤ ke ∧ ke ≤ 9223372036854775807) (h6 : -9223372036854775808 ≤ qu ∧ qu ≤ 9223372036854775807) (hts : TS w a n F0 W0 K0) (hn : n ≤ 140737488355328) (hF : ∀ i, i < n → -9223372036854775808 ≤ F0 i ∧ F0 i ≤ 9223372036854775807) (hW : ∀ i, i < n → -9223372036854775808 ≤ W0 i ∧ W0 i ≤ 9223372036854775807) (hK : ∀ i, i < n → -9223372036854775808 ≤ K0 i ∧ K0 i ≤ 9223372036854775807) :
    Calls Tryz.prog 10 #[.agg #[.int .i64 s, .int .i64 le, .int .i64 la, .int .i64 wi, .int .i64 ke, .int .i64 qu, .slice a n cap]] w (opdPost w) := by
  have hb0 : Below w.heap.size w (w.alloc (.cells #[.int .i64 s, .int .i64 le, .int .i64 la, .int .i64 wi, .int .i64 ke, .int .i64 qu, .slice a n cap] 27)) := (Below.refl _ _).alloc (Nat.le_refl _) _
  have q0 := rlast w (.cells #[.int .i64 s, .int .i64 le, .int .i64 la, .int .i64 wi, .int .i64 ke, .int .i64 qu, .slice a n cap] 27)
  have HAW := fun W => hide (awake_any W)
  have HCF := fun W (hW' : Below w.heap.size w W) => hide (config_any s le la wi ke qu a n cap F0 W0 K0 W h1 h2 h3 h4 h5 h6 (hts.below hW') hn hF hW hK)
  have HB0 := hide hb0
  have Q0 := hide q0
  have hl0 := lt_of_heap q0
  clear hb0 q0 h1 h2 h3 h4 h5 h6 hts hF hW hK
  go_enter Tryz.func10, Tryz.ntmps10
  go_wp2_with (first
    | (go_at_call 23; refine (unhide (HAW _)).mono ?_; rintro e w1 ⟨rfl, hb1⟩; have x0 := (hb1.block _ hl0).trans (unhide Q0); have r0 : w1.cell? ⟨w.heap.size, 0, none⟩ = some (.int .i64 s) := (by rw [rcell x0]; rfl); have r1 : w1.cell? ⟨w.heap.size, 1, none⟩ = some (.int .i64 le) := (by rw [rcell x0]; rfl); have r2 : w1.cell? ⟨w.heap.size, 2, none⟩ = some (.int .i64 la) := (by rw [rcell x0]; rfl); have r3 : w1.cell? ⟨w.heap.size, 3, none⟩ = some (.int .i64 wi) := (by rw [rcell x0]; rfl); have r4 : w1.cell? ⟨w.heap.size, 4, none⟩ = some (.int .i64 ke) := (by rw [rcell x0]; rfl); have r5 : w1.cell? ⟨w.heap.size, 5, none⟩ = some (.int .i64 qu) := (by rw [rcell x0]; rfl); have r6 : w1.cell? ⟨w.heap.size, 6, none⟩ = some (.slice a n cap) := (by rw [rcell x0]; rfl); have hr1 := lt_of_heap x0; have HB1 := hide ((unhide HB0).trans (hb1.mono (unhide HB0).size)); clear hb1 x0 HAW)
    | (go_at_call 24; refine (unhide (HCF _ (unhide HB1))).mono ?_; rintro e w2 ⟨c, g, cp, hr, hf, rfl, ho, hb2⟩; have HR := hide hr; have HF := hide hf; have HO2 := hide ho; have HB2 := hide ((unhide HB1).trans (hb2.mono (unhide HB1).size)); have HLW := hide (unhide HB1).size; clear hr hf ho hb2 HCF r0 r1 r2 r3 r4 r5 r6)
    | (go_at_call 25; refine (new_any w.heap.size _ (Nat.le_trans (unhide HB2).size (by rw [rsize]; omega))).mono ?_; rintro e w3 ⟨rfl, hD, hb3, hz3⟩; have hk3 := (hb3.block w2.heap.size (by rw [rsize]; omega)).trans (rlast w2 (.cells #[.int .i64 c.s, .int .i64 c.le, .int .i64 c.la, .int .i64 c.wi, .int .i64 c.ke, .int .i64 c.qu, .slice (some ⟨g, 0, none⟩) c.n cp] 27)); have s0 : w3.cell? ⟨w2.heap.size, 0, none⟩ = some (.int .i64 c.s) := (by rw [rcell hk3]; rfl); have s1 : w3.cell? ⟨w2.heap.size, 1, none⟩ = some (.int .i64 c.le) := (by rw [rcell hk3]; rfl); have s2 : w3.cell? ⟨w2.heap.size, 2, none⟩ = some (.int .i64 c.la) := (by rw [rcell hk3]; rfl); have s3 : w3.cell? ⟨w2.heap.size, 3, none⟩ = some (.int .i64 c.wi) := (by rw [rcell hk3]; rfl); have s4 : w3.cell? ⟨w2.heap.size, 4, none⟩ = some (.int .i64 c.ke) := (by rw [rcell hk3]; rfl); have s5 : w3.cell? ⟨w2.heap.size, 5, none⟩ = some (.int .i64 c.qu) := (by rw [rcell hk3]; rfl); have s6 : w3.cell? ⟨w2.heap.size, 6, none⟩ = some (.slice (some ⟨g, 0, none⟩) c.n cp) := (by rw [rcell hk3]; rfl); have hk3l := lt_of_heap hk3; have ho3 := row_later ((unhide HO2).alloc (.cells #[.int .i64 c.s, .int .i64 c.le, .int .i64 c.la, .int .i64 c.wi, .int .i64 c.ke, .int .i64 c.qu, .slice (some ⟨g, 0, none⟩) c.n cp] 27)) hb3; have hz4 : w3.heap.size = w2.heap.size + 2 := (by rw [hz3, rsize]); have hd4 : DiskAt 119 185 w.heap.size w3 (w2.heap.size + 1) newS (.slice none 0 0) := (by rw [rsize] at hD; exact hD); have HCO := hide (copied_any c (right_ok (unhide HR)) (some ⟨g, 0, none⟩) cp w3 (TS.of_owns ho3)); have HD := hide hd4; have HC3 := hide hk3; have HO3 := hide ho3; have HZ3 := hide hz4; have HB3 := hide ((unhide HB2).trans (((Below.refl w2.heap.size w2).alloc (Nat.le_refl _) (.cells #[.int .i64 c.s, .int .i64 c.le, .int .i64 c.la, .int .i64 c.wi, .int .i64 c.ke, .int .i64 c.qu, .slice (some ⟨g, 0, none⟩) c.n cp] 27)).trans (hb3.mono (by rw [rsize]; omega)) |>.mono (unhide HB2).size)); clear hD hb3 hz3 hk3 ho3 hz4 hd4)
    | (go_at_call 27; refine (unhide HCO).mono ?_; rintro e w4 ⟨g4, rfl, ho4, hb4⟩; have hk4 := (hb4.block _ (lt_of_heap (unhide HC3))).trans (unhide HC3); have hg4 := (ho4.form (show 0 < c.n from (right_ok (unhide HR)).n1)); have hlo4 : ∀ j, (Value.slice (some ⟨g4, 0, none⟩) c.n c.n).ownBlock = some j → w3.heap.size ≤ j := (fun j hj => (ho4.lt j hj).1); have HOP := hide (popen_any c (right_ok (unhide HR)) (unhide HR) (some ⟨g4, 0, none⟩) c.n w.heap.size (w2.heap.size + 1) (.slice none 0 0) w4 (Nat.le_trans (unhide HB3).size hb4.size) ((unhide HD).later hb4) (fun w' hk => TS.of_owns (owns_kept ho4 hk (fun j hj e => opd_ne (unhide HZ3) (hlo4 j hj) e)))); have HC4 := hide hk4; have HO4 := hide (row_later (unhide HO3) hb4); have HZ4 : Hid (w3.heap.size ≤ w4.heap.size) := hb4.size; have HB4 := hide ((unhide HB3).trans (hb4.mono (unhide HB3).size)); clear ho4 hb4 hk4 hg4 hlo4 HCO s0 s1 s2 s3 s4 s5 s6 hk3l)
    | (go_at_call 26; refine (unhide HOP).mono ?_; rintro e w5 ⟨i, fs', rfl, hM, _, hk5, _, hlo⟩; have hk6 : Kept (fun k => k = w2.heap.size + 1) w4 w5 := hk5.mono (fun k _ e => (by rcases e with e | e; exact e; cases e)); have hc5 := hk6.heap (unhide HC4) (by omega); have t0 : w5.cell? ⟨w2.heap.size, 0, none⟩ = some (.int .i64 c.s) := (by rw [rcell hc5]; rfl); have t1 : w5.cell? ⟨w2.heap.size, 1, none⟩ = some (.int .i64 c.le) := (by rw [rcell hc5]; rfl); have t2 : w5.cell? ⟨w2.heap.size, 2, none⟩ = some (.int .i64 c.la) := (by rw [rcell hc5]; rfl); have t3 : w5.cell? ⟨w2.heap.size, 3, none⟩ = some (.int .i64 c.wi) := (by rw [rcell hc5]; rfl); have t4 : w5.cell? ⟨w2.heap.size, 4, none⟩ = some (.int .i64 c.ke) := (by rw [rcell hc5]; rfl); have t5 : w5.cell? ⟨w2.heap.size, 5, none⟩ = some (.int .i64 c.qu) := (by rw [rcell hc5]; rfl); have t6 : w5.cell? ⟨w2.heap.size, 6, none⟩ = some (.slice (some ⟨g, 0, none⟩) c.n cp) := (by rw [rcell hc5]; rfl); have hc5l := lt_of_heap hc5; have HM := hide hM; have HK6 := hide hk6; have HLO := hide (fun k hk => (hlo k hk).1); clear hM hk5 hk6 hlo hc5 HOP))
  go_ret
  have hc := right_ok (unhide HR)
  have hk6 := unhide HK6
  have hz3 := unhide HZ3
  have hz4 := unhide HZ4
  have hz2 := (unhide HB2).size
  have ho5 : w5.ownsRow _ 66 3 (.slice (some ⟨g, 0, none⟩) c.n cp) c.n (row3 c.n c.F c.W c.K) := owns_kept (unhide HO4) hk6 (fun j hj e => by have := ((unhide HO2).lt j hj).2; omega)
  have hA : Below w5.heap.size w5 (w5.alloc (.cells #[.pointer (some ⟨i.x, 0, none⟩), .pointer (some ⟨w2.heap.size + 1, 0, none⟩), .int .i64 c.s, .int .i64 c.le, .int .i64 c.la, .int .i64 c.wi, .int .i64 c.ke, .int .i64 c.qu, .slice (some ⟨g, 0, none⟩) c.n cp, .int .i64 0, .slice none 0 0, .slice none 0 0, .slice none 0 0] 44)) := (Below.refl _ _).alloc (Nat.le_refl _) _
  have hb5 : Below w.heap.size w w5 := (unhide HB4).trans (hk6.below (unhide HB4).size (fun k e => by omega))
  have hlo : ∀ j, mfoot i j → w4.heap.size ≤ j := unhide HLO
  refine ⟨c, w5.heap.size, hc, unhide HF, rfl, ⟨⟨w5.heap.size, i, w2.heap.size + 1, .slice (some ⟨g, 0, none⟩) c.n cp, .slice none 0 0, .slice none 0 0, .slice none 0 0⟩, 0, rfl, ⟨rlast _ _, (unhide HM).later hA, row_later (owns_base ho5 (unhide HLW)) hA, World.ownsRow_nil _ _ _ _, World.ownsRow_nil _ _ _ _, World.ownsRow_nil _ _ _ _, hb5.size, fun j hj => ?_, fun j hj hm => ?_⟩, rfl, SOk.new hc, Nat.le_refl _, Nat.le_refl _⟩, hb5.trans (hA.mono hb5.size)⟩
  · have := hlo j hj; omega
  · have h1 := hlo j hm
    have h2 := (unhide HM).foot_lt j hm
    rcases hj with e | e | e | e | e
    · have : j = w5.heap.size := e
      omega
    · have := ((unhide HO2).lt j e).2; omega
    · cases e
    · cases e
    · cases e
end Go.Proofs.YtpbimdkclnekeaaGreat
