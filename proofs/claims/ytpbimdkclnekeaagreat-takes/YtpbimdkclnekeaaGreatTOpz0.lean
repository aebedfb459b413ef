import Derived.Test.YtpbimdkclnekeaaGreatTMlz0
import Derived.Test.YtpbimdkclnekeaaGreatTZet7
import Derived.Test.YtpbimdkclnekeaaGreatTJn1
import Derived.Test.YtpbimdkclnekeaaGreatTDsk7
import Derived.Test.YtpbimdkclnekeaaGreatTRefE

namespace Go.Proofs.YtpbimdkclnekeaaGreat
open Value (int)
open IntKind (i64)
open Go.RowKit Go.Maps Go.Shelf
set_option linter.unusedVariables false
theorem owns_empty {w : World} {base g size : Nat} {e : TypeId} {cs : Array Value} (h : w.heap[g]? = some (.cells cs e (0, 0))) (hc : cs.size = 0) (hb : base <= g) : w.ownsRow base e size (.slice (some ⟨g, 0, none⟩) 0 0) 0 [] :=
 ⟨by simp, .inr ⟨g, 0, cs, rfl, hb, h, ⟨Nat.le_refl _, by simp [maxLen], by simp [hc], by simp⟩⟩⟩
set_option maxRecDepth 8000 in
set_option maxHeartbeats 2000000 in
theorem clone_any (c : Cf) (hc : c.ok) (a : Option Addr) (cap : Nat) (w : World) (h : TS w a c.n c.F c.W c.K) :
  Calls Tryz.prog 124 #[.slice a c.n cap] w fun e w' => ∃ g cap', e = .returned (.slice (some ⟨g, 0, none⟩) c.n cap') /\ w'.ownsRow w.heap.size 66 3 (.slice (some ⟨g, 0, none⟩) c.n cap') c.n (row3 c.n c.F c.W c.K) /\ Below w.heap.size w w' := by
 have hn1 := hc.n1
 have hn4 := hc.n4
 have h0 := tsCells h
 obtain ⟨ad, had, hcl⟩ := h0 (by rw [zbu]; omega)
 subst had
 have hb0 : ∀ o, Below w.heap.size w (w.alloc o) := fun o => (Below.refl _ _).alloc (Nat.le_refl _) _
 have hnews : ∀ o, ∀ j u, (row3 c.n c.F c.W c.K)[j]? = some u -> (w.alloc o).cell? (ad.add j) = some u := fun o j u hu => by
  have h1 := hcl j u hu
  obtain ⟨b, off, hb, hbz, _⟩ := h (by omega)
  cases hb
  have hadd : (⟨b, off, none⟩ : Addr).add j = ⟨b, off + j, none⟩ := by unfold Addr.add; split <;> simp_all
  rw [hadd] at h1 ⊢
  exact ((hb0 o).cell (p := ⟨b, off + j, none⟩) hbz).trans h1
 have hcmp : (binOp .eql 25 (.slice (some ad) c.n cap) (.slice none 0 0)).run Tryz.prog w = .ok (.bool false) w := by kernel_rfl
 have HN := zab hnews
 have hm0 : 0 < c.n := by omega
 have hm1 : 0 + c.n <= maxLen := by simp only [maxLen]; omega
 have hm2 : (0 + c.n) * 24 <= 140737488355328 := by omega
 have hm3 : ∀ o, w.heap.size <= (w.alloc o).heap.size := fun o => by rw [zbd]; omega
 clear h h0 hcl hnews
 go_enter Tryz.func124, Tryz.ntmps124
 go_wp2_with (first | (at_builtin; refine zbg rfl _ _ 25 rfl w.heap.size 66 _ 3 24 Tryz.underlying25 Tryz.infoTierR rfl (by decide) (.slice (some ⟨w.heap.size, 0, none⟩) 0 0) 0 [] rfl (owns_empty (zap _ _) rfl (Nat.le_refl _)) ad c.n cap (row3 c.n c.F c.W c.K) rfl (zbu _ _ _ _) (ud HN _) (row3_one _ _ _ _) hm0 hm1 hm2 (hm3 _) ?_; intro g cap2 w2 hown hold hgrow hat hlt) | go_in)
 go_ret
 refine ⟨g, cap2, by simp, by simpa using hown, ?_⟩
 exact (hb0 _).grown hgrow (hb0 _).size (fun k e => by cases e; exact Nat.le_refl _)
theorem set7 {w : World} {g : Nat} {a b c d e f i : Value} {t : TypeId} {fr : Nat × Nat} (h : w.heap[g]? = some (.cells #[a, b, c, d, e, f, i] t fr)) (x0 x1 x2 x3 x4 x5 x6 : Value) : (((((((w.setCell ⟨g, 0, none⟩ x0).setCell ⟨g, 1, none⟩ x1).setCell ⟨g, 2, none⟩ x2).setCell ⟨g, 3, none⟩ x3).setCell ⟨g, 4, none⟩ x4).setCell ⟨g, 5, none⟩ x5).setCell ⟨g, 6, none⟩ x6).heap[g]? = some (.cells #[x0, x1, x2, x3, x4, x5, x6] t fr) := by
 have h0 : (w.setCell ⟨g, 0, none⟩ x0).heap[g]? = some (.cells #[x0, b, c, d, e, f, i] t fr) := zbz (i := 0) h x0
 have h1 : ((w.setCell ⟨g, 0, none⟩ x0).setCell ⟨g, 1, none⟩ x1).heap[g]? = some (.cells #[x0, x1, c, d, e, f, i] t fr) := zbz (i := 1) h0 x1
 have h2 : (((w.setCell ⟨g, 0, none⟩ x0).setCell ⟨g, 1, none⟩ x1).setCell ⟨g, 2, none⟩ x2).heap[g]? = some (.cells #[x0, x1, x2, d, e, f, i] t fr) := zbz (i := 2) h1 x2
 have h3 : ((((w.setCell ⟨g, 0, none⟩ x0).setCell ⟨g, 1, none⟩ x1).setCell ⟨g, 2, none⟩ x2).setCell ⟨g, 3, none⟩ x3).heap[g]? = some (.cells #[x0, x1, x2, x3, e, f, i] t fr) := zbz (i := 3) h2 x3
 have h4 : (((((w.setCell ⟨g, 0, none⟩ x0).setCell ⟨g, 1, none⟩ x1).setCell ⟨g, 2, none⟩ x2).setCell ⟨g, 3, none⟩ x3).setCell ⟨g, 4, none⟩ x4).heap[g]? = some (.cells #[x0, x1, x2, x3, x4, f, i] t fr) := zbz (i := 4) h3 x4
 have h5 : ((((((w.setCell ⟨g, 0, none⟩ x0).setCell ⟨g, 1, none⟩ x1).setCell ⟨g, 2, none⟩ x2).setCell ⟨g, 3, none⟩ x3).setCell ⟨g, 4, none⟩ x4).setCell ⟨g, 5, none⟩ x5).heap[g]? = some (.cells #[x0, x1, x2, x3, x4, x5, i] t fr) := zbz (i := 5) h4 x5
 have h6 : (((((((w.setCell ⟨g, 0, none⟩ x0).setCell ⟨g, 1, none⟩ x1).setCell ⟨g, 2, none⟩ x2).setCell ⟨g, 3, none⟩ x3).setCell ⟨g, 4, none⟩ x4).setCell ⟨g, 5, none⟩ x5).setCell ⟨g, 6, none⟩ x6).heap[g]? = some (.cells #[x0, x1, x2, x3, x4, x5, x6] t fr) := zbz (i := 6) h5 x6
 exact h6
set_option maxHeartbeats 2000000 in
theorem lnew_any (c : Cf) (hc : c.ok) (a : Option Addr) (cap : Nat) (w : World) (h : TS w a c.n c.F c.W c.K) :
  Calls Tryz.prog 63 #[.agg #[int i64 c.s, int i64 c.le, int i64 c.la, int i64 c.wi, int i64 c.ke, int i64 c.qu, .slice a c.n cap]] w fun e w' => ∃ g cap', e = .returned (.agg #[int i64 c.s, int i64 c.le, int i64 c.la, int i64 c.wi, int i64 c.ke, int i64 c.qu, .slice (some ⟨g, 0, none⟩) c.n cap']) /\ w'.ownsRow w.heap.size 66 3 (.slice (some ⟨g, 0, none⟩) c.n cap') c.n (row3 c.n c.F c.W c.K) /\ Below w.heap.size w w' := by
 obtain ⟨y0, y1, hbw, yz⟩ := box2 w (.cells #[int i64 c.s, int i64 c.le, int i64 c.la, int i64 c.wi, int i64 c.ke, int i64 c.qu, .slice a c.n cap] 27) (.cells #[int i64 0, int i64 0, int i64 0, int i64 0, int i64 0, int i64 0, .slice none 0 0] 80)
 have HC := zab (clone_any c hc a cap _ (h.below hbw))
 have x6 : ((w.alloc (.cells #[int i64 c.s, int i64 c.le, int i64 c.la, int i64 c.wi, int i64 c.ke, int i64 c.qu, .slice a c.n cap] 27)).alloc (.cells #[int i64 0, int i64 0, int i64 0, int i64 0, int i64 0, int i64 0, .slice none 0 0] 80)).cell? ⟨w.heap.size, 6, none⟩ = some (.slice a c.n cap) := by rw [zac y0]; rfl
 clear h
 go_enter Tryz.func63, Tryz.ntmps63
 have Y0 := zab y0
 have Y1 := zab y1
 have HBW := zab hbw
 have YZ := zab yz
 clear y0 y1 hbw yz
 go_wp2_with fail
 generalize ((w.alloc (.cells #[int i64 c.s, int i64 c.le, int i64 c.la, int i64 c.wi, int i64 c.ke, int i64 c.qu, .slice a c.n cap] 27)).alloc (.cells #[int i64 0, int i64 0, int i64 0, int i64 0, int i64 0, int i64 0, .slice none 0 0] 80)) = X at *
 refine (ud HC).mono ?_
 rintro e w1 ⟨g, cap1, rfl, hown, hb1⟩
 have hq0 : w.heap.size < X.heap.size := by rw [ud YZ]; omega
 have hq1 : w.heap.size + 1 < X.heap.size := by rw [ud YZ]; omega
 have e0 := (hb1.block w.heap.size hq0).trans (ud Y0)
 have e1 := (hb1.block (w.heap.size + 1) hq1).trans (ud Y1)
 have z0 : w1.cell? ⟨w.heap.size, 0, none⟩ = some (int i64 c.s) := by rw [zac e0]; rfl
 have z1 : w1.cell? ⟨w.heap.size, 1, none⟩ = some (int i64 c.le) := by rw [zac e0]; rfl
 have z2 : w1.cell? ⟨w.heap.size, 2, none⟩ = some (int i64 c.la) := by rw [zac e0]; rfl
 have z3 : w1.cell? ⟨w.heap.size, 3, none⟩ = some (int i64 c.wi) := by rw [zac e0]; rfl
 have z4 : w1.cell? ⟨w.heap.size, 4, none⟩ = some (int i64 c.ke) := by rw [zac e0]; rfl
 have z5 : w1.cell? ⟨w.heap.size, 5, none⟩ = some (int i64 c.qu) := by rw [zac e0]; rfl
 have z6 : w1.cell? ⟨w.heap.size, 6, none⟩ = some (.slice a c.n cap) := by rw [zac e0]; rfl
 have zf := fun j => zaz e0 j
 have r0 : w1.cell? ⟨w.heap.size + 1, 0, none⟩ = some (int i64 0) := by rw [zac e1]; rfl
 have r1 : w1.cell? ⟨w.heap.size + 1, 1, none⟩ = some (int i64 0) := by rw [zac e1]; rfl
 have r2 : w1.cell? ⟨w.heap.size + 1, 2, none⟩ = some (int i64 0) := by rw [zac e1]; rfl
 have r3 : w1.cell? ⟨w.heap.size + 1, 3, none⟩ = some (int i64 0) := by rw [zac e1]; rfl
 have r4 : w1.cell? ⟨w.heap.size + 1, 4, none⟩ = some (int i64 0) := by rw [zac e1]; rfl
 have r5 : w1.cell? ⟨w.heap.size + 1, 5, none⟩ = some (int i64 0) := by rw [zac e1]; rfl
 have r6 : w1.cell? ⟨w.heap.size + 1, 6, none⟩ = some (.slice none 0 0) := by rw [zac e1]; rfl
 have rf := fun j => zaz e1 j
 have E0 := zab e0
 have E1 := zab e1
 have HOWN := zab hown
 have HB1 := zab hb1
 clear e0 e1 hown hb1
 go_wp2_with fail
 have hk1 := zck (w := w1) (g := w.heap.size) (i := 6) (k := w.heap.size + 1) (v := .slice (some ⟨g, 0, none⟩) c.n cap1) (by omega)
 have hf := set7 (hk1.trans (ud E1)) (int i64 c.s) (int i64 c.le) (int i64 c.la) (int i64 c.wi) (int i64 c.ke) (int i64 c.qu) (.slice (some ⟨g, 0, none⟩) c.n cap1)
 have hbz : Below X.heap.size X w1 := ud HB1
 have hKK : zan (fun k => k = w.heap.size \/ k = w.heap.size + 1) w1 ((((((((w1.setCell ⟨w.heap.size, 6, none⟩ (.slice (some ⟨g, 0, none⟩) c.n cap1)).setCell ⟨w.heap.size + 1, 0, none⟩ (int i64 c.s)).setCell ⟨w.heap.size + 1, 1, none⟩ (int i64 c.le)).setCell ⟨w.heap.size + 1, 2, none⟩ (int i64 c.la)).setCell ⟨w.heap.size + 1, 3, none⟩ (int i64 c.wi)).setCell ⟨w.heap.size + 1, 4, none⟩ (int i64 c.ke)).setCell ⟨w.heap.size + 1, 5, none⟩ (int i64 c.qu)).setCell ⟨w.heap.size + 1, 6, none⟩ (.slice (some ⟨g, 0, none⟩) c.n cap1)) :=
  zag (zag (zag (zag (zag (zag (zag (zag (zan.refl _ _) (.inl rfl)) (.inr rfl)) (.inr rfl)) (.inr rfl)) (.inr rfl)) (.inr rfl)) (.inr rfl)) (.inr rfl)
 refine bodyPost_ret (v := .agg #[int i64 c.s, int i64 c.le, int i64 c.la, int i64 c.wi, int i64 c.ke, int i64 c.qu, .slice (some ⟨g, 0, none⟩) c.n cap1]) (results_cell_row Tryz.results63 _ _ (w.heap.size + 1) _ _ _ _ rfl hf Tryz.underlying80 rfl (by kernel_rfl)) rfl ?_
 refine ⟨g, cap1, rfl, ?_, (ud HBW).trans ((hbz.mono (ud HBW).size).trans (hKK.below (Nat.le_trans (ud HBW).size hbz.size) (fun k hk => by rcases hk with rfl | rfl <;> omega)))⟩
 refine owns_base (zae (ud HOWN) hKK (fun k hk => ?_)) (Nat.le_of_lt hq0)
 have : X.heap.size <= k := by
  have hg : k = g := by simp [Value.ownBlock] at hk; exact hk.symm
  obtain ⟨g2, cap2, hv, hb2, _⟩ := (ud HOWN).form (by have := hc.n1; omega)
  cases hv; omega
 omega
set_option maxHeartbeats 2000000 in
theorem snew_any (c : Cf) (a : Option Addr) (cap : Nat) (w : World) :
  Calls Tryz.prog 64 #[.agg #[int i64 c.s, int i64 c.le, int i64 c.la, int i64 c.wi, int i64 c.ke, int i64 c.qu, .slice a c.n cap]] w fun e w' => ∃ s lb gb, e = .returned (.pointer (some ⟨s, 0, none⟩)) /\ w.heap.size <= s /\ w.heap.size <= lb /\ w.heap.size <= gb /\ gb ≠ lb /\ w'.heap[s]? = some (.cells #[int i64 c.s, int i64 c.le, int i64 c.la, int i64 c.wi, int i64 c.ke, int i64 c.qu, .slice a c.n cap, .map (some lb), .map (some gb)] 140 (0, 0)) /\ zeu w' lb [] /\ zce goneM w' gb [] /\ Below w.heap.size w w' := by
 have m1 : ∀ W : World, (Instr.makeMap 135 none).run Tryz.prog W = .ok (.map (some W.heap.size)) (W.alloc (.map #[] 0)) := fun W => by kernel_rfl
 have m2 : ∀ W : World, (Instr.makeMap 138 none).run Tryz.prog W = .ok (.map (some W.heap.size)) (W.alloc (.map #[] 0)) := fun W => by kernel_rfl
 go_enter Tryz.func64, Tryz.ntmps64
 go_wp2_with fail
 go_ret
 obtain ⟨h1, h2, h3, hb, hz⟩ := box3p w (.cells #[int i64 c.s, int i64 c.le, int i64 c.la, int i64 c.wi, int i64 c.ke, int i64 c.qu, .slice a c.n cap] 80) (.map #[] 0) (.map #[] 0)
 generalize (((w.alloc (.cells #[int i64 c.s, int i64 c.le, int i64 c.la, int i64 c.wi, int i64 c.ke, int i64 c.qu, .slice a c.n cap] 80)).alloc (.map #[] 0)).alloc (.map #[] 0)) = X at *
 have hl := zap X (.cells #[int i64 c.s, int i64 c.le, int i64 c.la, int i64 c.wi, int i64 c.ke, int i64 c.qu, .slice a c.n cap, .map (some (w.heap.size + 1)), .map (some (w.heap.size + 2))] 140)
 rw [hz] at hl
 refine ⟨w.heap.size + 3, w.heap.size + 1, w.heap.size + 2, rfl, by omega, by omega, by omega, by omega, hl, ⟨#[], 0, (Below.heap_alloc _ _ _ (by omega)).trans h2, ⟨rfl, by simp, by simp, by simp, by simp [zam], by simp⟩⟩, ⟨#[], 0, (Below.heap_alloc _ _ _ (by omega)).trans h3, ⟨rfl, by simp, by simp, by simp, by simp [zaj], by simp⟩⟩, hb.alloc hb.size _⟩
end Go.Proofs.YtpbimdkclnekeaaGreat
