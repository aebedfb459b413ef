import Derived.Test.YtpbimdkclnekeaaGreatKMod2
import Derived.Test.YtpbimdkclnekeaaGreatKOpz0
import Derived.Test.YtpbimdkclnekeaaGreatKMlz6
import Derived.Test.YtpbimdkclnekeaaGreatKMlz7
import Derived.Test.YtpbimdkclnekeaaGreatKPck2

namespace Go.Proofs.YtpbimdkclnekeaaGreat
open Value (int)
open IntKind (i64)
open Go.RowKit Go.Maps Go.Shelf
set_option linter.unusedVariables false
theorem aw_ing {w : World} {i : Ids} (h : zat w i awC 1 ⟨0, [], [], 0, [], []⟩) :
  Calls Tryz.prog 59 #[.pointer (some ⟨i.x, 0, none⟩), int i64 1, int i64 0, .int .i32 7] w fun e w' => e = .returned (int i64 0) /\ zat w' i awC 1 awM1 /\ zaj (zbx i) w w' :=
 (ming_ok h awC_ok 1 0 7 (by omega) (by dsimp only; omega) (by decide) (by decide) (by omega) (by decide) (by intro p hp; cases hp) (fun k hk => rfl) (by decide) (by decide) (by intro p hp; cases hp)).mono fun e w' ⟨a, b, d⟩ => ⟨a, b, d.mono (fun k _ e => .inr (.inl (.inr (.inr (.inl e)))))⟩
theorem aw_tick {w : World} {i : Ids} (h : zat w i awC 1 awM1) :
  Calls Tryz.prog 36 #[.pointer (some ⟨i.x, 0, none⟩), int i64 6] w fun e w' => e = .returned (int i64 0) /\ zat w' i awC 1 awM2 /\ zaj (zbx i) w w' := by
 refine (mtick_good h awC_ok 6 (by omega) (by decide) ⟨(fun p hp => by cases hp), (fun p hp => by cases hp), (fun p hp => by cases hp), by decide, by decide, by decide⟩ ?_ (by decide) ?_).mono ?_
 ·intro p hp
  simp [awM1, awL1] at hp
  rcases hp with rfl | rfl
  ·exact aw_inR
  ·exact aw_inT
 ·intro T Q he
  rw [(exps_nil he).1]; simp
 ·rintro e w' ⟨h1, TL1, QL1, TL', h2, h3, h4, h5, h6⟩
  obtain ⟨e1, e2⟩ := exps_nil h4
  subst e1
  subst e2
  have e3 := aw_post1 h6
  subst e3
  exact ⟨h1, h2, h3⟩
theorem aw_pick {w : World} {i : Ids} {m : MS} (h : zat w i awC 1 m) {k : Jk} {x : Tsk} (hT : m.TL = [(k, x)]) (hQ : m.QL = []) (hn : m.now = 6) (hx : TskIn awC 6 x) (hr : x.rest <= 6) (hnum : m.num = 0 \/ m.num = 1) (hu : 0 <= zam m.L /\ zam m.L <= 1000) :
  Calls Tryz.prog 16 #[.pointer (some ⟨i.x, 0, none⟩), int i64 0] w fun e w' => e = .returned (.tuple #[.agg #[int i64 x.kd, int i64 x.s.t, int i64 x.s.ser, int i64 x.s.win, int i64 x.since, int i64 x.tries, int i64 x.rest, int i64 1, int i64 (m.num + 1), int i64 0, int i64 15], int i64 0]) /\ zat w' i awC 1 { m with num := m.num + 1, QL := zdz m.QL ⟨1, m.num + 1⟩ ⟨x.kd, x.s, 0, 15⟩ } /\ zaj (zbx i) w w' := by
 refine (mpick_any h awC_ok 0 (by decide) (by omega) ?_ (by rw [hQ]; simp) (by omega) (by unfold zdg; omega) (by rw [hQ]; intro q hq; cases hq) hu).mono ?_
 ·intro p hp
  rw [hT] at hp
  simp at hp
  subst hp
  rw [hn]; exact hx
 ·rintro e w' (⟨_, _, h3⟩ | ⟨_, _, h3⟩ | ⟨p, hp, _, he, hm, hk⟩)
  ·rw [hQ] at h3; simp at h3
  ·have := h3 (k, x) (by rw [hT]; simp)
   unfold freeB at this
   rw [hQ, hn] at this
   simp [leasedB, hr] at this
  ·rw [hT] at hp
   simp at hp
   subst hp
   have h9 : m.now + awC.le = 15 := by rw [hn]; rfl
   rw [h9] at he hm
   exact ⟨he, hm, hk⟩
theorem aw_pick1 {w : World} {i : Ids} (h : zat w i awC 1 awM2) :
  Calls Tryz.prog 16 #[.pointer (some ⟨i.x, 0, none⟩), int i64 0] w fun e w' => e = .returned (.tuple #[.agg #[int i64 1, int i64 0, int i64 1, int i64 0, int i64 6, int i64 0, int i64 0, int i64 1, int i64 1, int i64 0, int i64 15], int i64 0]) /\ zat w' i awC 1 awM3 /\ zaj (zbx i) w w' :=
 aw_pick (m := awM2) h rfl rfl rfl ⟨by decide, by decide, by decide, by decide⟩ (by decide) (.inl rfl) (by decide)
theorem aw_pick2 {w : World} {i : Ids} (h : zat w i awC 1 awM4) :
  Calls Tryz.prog 16 #[.pointer (some ⟨i.x, 0, none⟩), int i64 0] w fun e w' => e = .returned (.tuple #[.agg #[int i64 2, int i64 (-1), int i64 1, int i64 0, int i64 6, int i64 0, int i64 0, int i64 1, int i64 2, int i64 0, int i64 15], int i64 0]) /\ zat w' i awC 1 awM5 /\ zaj (zbx i) w w' :=
 aw_pick (m := awM4) h rfl rfl rfl ⟨by decide, by decide, by decide, by decide⟩ (by decide) (.inr rfl) (by decide)
theorem aw_com1 {w : World} {i : Ids} (h : zat w i awC 1 awM3) :
  Calls Tryz.prog 18 #[.pointer (some ⟨i.x, 0, none⟩), .agg #[int i64 1, int i64 1]] w fun e w' => e = .returned (int i64 0) /\ zat w' i awC 1 awM4 /\ zaj (zbx i) w w' := by
 refine (commit_Roll h awC_ok ⟨1, 1⟩ (by unfold Tok.wf zdg; dsimp only; omega) (g := ⟨1, awT, 0, 15⟩) rfl (by unfold Jk.wf Lse.job zdg; exact ⟨by dsimp only; omega, aw_inT.1⟩) awT 6 0 0 rfl aw_inT 0 rfl (by decide) (by decide) ?_ (by decide) (by decide) (by decide)).mono ?_
 ·rw [show zeg awM3.L awT ⟨3, zcd (zcf awC awM3.L awT.ser awT.win 0)⟩ = awL2 from aw_roll]
  intro p hp
  simp [awL2] at hp
  rcases hp with rfl | rfl
  ·exact aw_inR
  ·exact aw_inT
 ·rw [show zeg awM3.L awT ⟨3, zcd (zcf awC awM3.L awT.ser awT.win 0)⟩ = awL2 from aw_roll]
  rintro e w' ⟨h1, TL', h2, h3, h4⟩
  have e3 := aw_post2 (num := 1) h4
  subst e3
  exact ⟨h1, h2, h3⟩
theorem aw_com2 {w : World} {i : Ids} (h : zat w i awC 1 awM5) :
  Calls Tryz.prog 18 #[.pointer (some ⟨i.x, 0, none⟩), .agg #[int i64 1, int i64 2]] w fun e w' => e = .returned (int i64 0) /\ (∃ TL', zat w' i awC 1 ⟨6, awL3, [(awR, ())], 2, TL', []⟩) /\ zaj (zbx i) w w' := by
 refine (commit_Reclaim h awC_ok ⟨1, 2⟩ (by unfold Tok.wf zdg; dsimp only; omega) (g := ⟨2, awR, 0, 15⟩) rfl (by unfold Jk.wf Lse.job zdg; exact ⟨by dsimp only; omega, aw_inR.1⟩) awR 6 0 0 rfl aw_inR (by decide) (by decide) ?_ (by decide) (by decide) (by decide)).mono ?_
 ·intro p hp
  rw [show zby awM5.L awR = awL3 from rfl] at hp
  simp [awL3] at hp
  rcases hp with rfl
  exact aw_inT
 ·rintro e w' ⟨h1, TL', h2, h3, h4⟩
  exact ⟨h1, ⟨TL', h2⟩, h3⟩
theorem aw_q1 {w : World} {i : Ids} {TL' : List (Jk × Tsk)} (h : zat w i awC 1 ⟨6, awL3, [(awR, ())], 2, TL', []⟩) :
  Calls Tryz.prog 60 #[.pointer (some ⟨i.x, 0, none⟩), int i64 0, int i64 1, int i64 0] w fun e w' => e = .returned (.tuple #[.agg #[int i64 1, int i64 7, .int .i32 7, .int .i32 7], int i64 0]) /\ Below w.heap.size w w' := mquery_any h awC_ok (by dsimp only; omega) 0 1 0 (by decide) (by decide) (by decide)
theorem aw_q2 {w : World} {i : Ids} {TL' : List (Jk × Tsk)} (h : zat w i awC 1 ⟨6, awL3, [(awR, ())], 2, TL', []⟩) :
  Calls Tryz.prog 60 #[.pointer (some ⟨i.x, 0, none⟩), int i64 (-1), int i64 1, int i64 0] w fun e w' => e = .returned (.tuple #[.agg #[int i64 0, int i64 0, .int .i32 0, .int .i32 0], int i64 12]) /\ Below w.heap.size w w' := mquery_any h awC_ok (by dsimp only; omega) (-1) 1 0 (by decide) (by decide) (by decide)
end Go.Proofs.YtpbimdkclnekeaaGreat
