import Derived.Test.YtpbimdkclnekeaaGreatKMod2
import Derived.Test.YtpbimdkclnekeaaGreatKJn1
import Derived.Test.YtpbimdkclnekeaaGreatKDsk7
import Derived.Test.YtpbimdkclnekeaaGreatKRefE
import Derived.Test.YtpbimdkclnekeaaGreatKBrd3
import Derived.Test.YtpbimdkclnekeaaGreatKConf4
import Derived.Test.YtpbimdkclnekeaaGreatKRef2
import Derived.Deep.RegionHeld3

namespace Go.Proofs.YtpbimdkclnekeaaGreat
open Value (int)
open IntKind (i64)
open Go.RowKit Go.Maps Go.Shelf
set_option linter.unusedVariables false
theorem owns_empty {w : World} {base g size : Nat} {e : TypeId} {cs : Array Value} (h : w.heap[g]? = some (.cells cs e (0, 0))) (hc : cs.size = 0) (hb : base <= g) : w.ownsRow base e size (.slice (some ⟨g, 0, none⟩) 0 0) 0 [] :=
 ⟨by simp, .inr ⟨g, 0, cs, rfl, hb, h, ⟨Nat.le_refl _, by simp [maxLen], by simp [hc], by simp⟩⟩⟩
set_option maxRecDepth 8000 in
set_option maxHeartbeats 2000000 in
theorem clone_any (c : Cf) (hc : c.ok) (a : Option Addr) (cap : Nat) (w : World) (h : TS w a c.n c.F c.W c.K) :
  Calls Tryz.prog 124 #[.slice a c.n cap] w fun e w' => ∃ g cap', e = .returned (.slice (some ⟨g, 0, none⟩) c.n cap') /\ w'.ownsRow w.heap.size 66 3 (.slice (some ⟨g, 0, none⟩) c.n cap') c.n (row3 c.n c.F c.W c.K) /\ Below w.heap.size w w' := by
 have hn1 := hc.n1
 have hn4 := hc.n4
 have h0 := tsCells h
 obtain ⟨ad, had, hcl⟩ := h0 (by rw [zdd]; omega)
 subst had
 have hb0 : ∀ o, Below w.heap.size w (w.alloc o) := fun o => (Below.refl _ _).alloc (Nat.le_refl _) _
 have hnews : ∀ o, ∀ j u, (row3 c.n c.F c.W c.K)[j]? = some u -> (w.alloc o).cell? (ad.add j) = some u := fun o j u hu => by
  have h1 := hcl j u hu
  obtain ⟨b, off, hb, hbz, _⟩ := h (by omega)
  cases hb
  have hadd : (⟨b, off, none⟩ : Addr).add j = ⟨b, off + j, none⟩ := by unfold Addr.add; split <;> simp_all
  rw [hadd] at h1 ⊢
  exact ((hb0 o).cell (p := ⟨b, off + j, none⟩) hbz).trans h1
 have hcmp : (binOp .eql 25 (.slice (some ad) c.n cap) (.slice none 0 0)).run Tryz.prog w = .ok (.bool false) w := by kernel_rfl
 have HN := zac hnews
 have hm0 : 0 < c.n := by omega
 have hm1 : 0 + c.n <= maxLen := by simp only [maxLen]; omega
 have hm2 : (0 + c.n) * 24 <= 140737488355328 := by omega
 have hm3 : ∀ o, w.heap.size <= (w.alloc o).heap.size := fun o => by rw [zbm]; omega
 clear h h0 hcl hnews
 go_enter Tryz.func124, Tryz.ntmps124
 go_wp2_with (first | (at_builtin; refine zdv rfl _ _ 25 rfl w.heap.size 66 _ 3 24 Tryz.underlying25 Tryz.infoTierR rfl (by decide) (.slice (some ⟨w.heap.size, 0, none⟩) 0 0) 0 [] rfl (owns_empty (zag _ _) rfl (Nat.le_refl _)) ad c.n cap (row3 c.n c.F c.W c.K) rfl (zdd _ _ _ _) (ud HN _) (row3_one _ _ _ _) hm0 hm1 hm2 (hm3 _) ?_; intro g cap2 w2 hown hold hgrow hat hlt) | go_in)
 go_ret
 refine ⟨g, cap2, by simp, by simpa using hown, ?_⟩
 exact (hb0 _).grown hgrow (hb0 _).size (fun k e => by cases e; exact Nat.le_refl _)
theorem set7 {w : World} {g : Nat} {a b c d e f i : Value} {t : TypeId} {fr : Nat × Nat} (h : w.heap[g]? = some (.cells #[a, b, c, d, e, f, i] t fr)) (x0 x1 x2 x3 x4 x5 x6 : Value) : (((((((w.setCell ⟨g, 0, none⟩ x0).setCell ⟨g, 1, none⟩ x1).setCell ⟨g, 2, none⟩ x2).setCell ⟨g, 3, none⟩ x3).setCell ⟨g, 4, none⟩ x4).setCell ⟨g, 5, none⟩ x5).setCell ⟨g, 6, none⟩ x6).heap[g]? = some (.cells #[x0, x1, x2, x3, x4, x5, x6] t fr) := by
 have h0 : (w.setCell ⟨g, 0, none⟩ x0).heap[g]? = some (.cells #[x0, b, c, d, e, f, i] t fr) := zcu (i := 0) h x0
 have h1 : ((w.setCell ⟨g, 0, none⟩ x0).setCell ⟨g, 1, none⟩ x1).heap[g]? = some (.cells #[x0, x1, c, d, e, f, i] t fr) := zcu (i := 1) h0 x1
 have h2 : (((w.setCell ⟨g, 0, none⟩ x0).setCell ⟨g, 1, none⟩ x1).setCell ⟨g, 2, none⟩ x2).heap[g]? = some (.cells #[x0, x1, x2, d, e, f, i] t fr) := zcu (i := 2) h1 x2
 have h3 : ((((w.setCell ⟨g, 0, none⟩ x0).setCell ⟨g, 1, none⟩ x1).setCell ⟨g, 2, none⟩ x2).setCell ⟨g, 3, none⟩ x3).heap[g]? = some (.cells #[x0, x1, x2, x3, e, f, i] t fr) := zcu (i := 3) h2 x3
 have h4 : (((((w.setCell ⟨g, 0, none⟩ x0).setCell ⟨g, 1, none⟩ x1).setCell ⟨g, 2, none⟩ x2).setCell ⟨g, 3, none⟩ x3).setCell ⟨g, 4, none⟩ x4).heap[g]? = some (.cells #[x0, x1, x2, x3, x4, f, i] t fr) := zcu (i := 4) h3 x4
 have h5 : ((((((w.setCell ⟨g, 0, none⟩ x0).setCell ⟨g, 1, none⟩ x1).setCell ⟨g, 2, none⟩ x2).setCell ⟨g, 3, none⟩ x3).setCell ⟨g, 4, none⟩ x4).setCell ⟨g, 5, none⟩ x5).heap[g]? = some (.cells #[x0, x1, x2, x3, x4, x5, i] t fr) := zcu (i := 5) h4 x5
 have h6 : (((((((w.setCell ⟨g, 0, none⟩ x0).setCell ⟨g, 1, none⟩ x1).setCell ⟨g, 2, none⟩ x2).setCell ⟨g, 3, none⟩ x3).setCell ⟨g, 4, none⟩ x4).setCell ⟨g, 5, none⟩ x5).setCell ⟨g, 6, none⟩ x6).heap[g]? = some (.cells #[x0, x1, x2, x3, x4, x5, x6] t fr) := zcu (i := 6) h5 x6
 exact h6
set_option maxHeartbeats 2000000 in
theorem lnew_any (c : Cf) (hc : c.ok) (a : Option Addr) (cap : Nat) (w : World) (h : TS w a c.n c.F c.W c.K) :
  Calls Tryz.prog 63 #[.agg #[int i64 c.s, int i64 c.le, int i64 c.la, int i64 c.wi, int i64 c.ke, int i64 c.qu, .slice a c.n cap]] w fun e w' => ∃ g cap', e = .returned (.agg #[int i64 c.s, int i64 c.le, int i64 c.la, int i64 c.wi, int i64 c.ke, int i64 c.qu, .slice (some ⟨g, 0, none⟩) c.n cap']) /\ w'.ownsRow w.heap.size 66 3 (.slice (some ⟨g, 0, none⟩) c.n cap') c.n (row3 c.n c.F c.W c.K) /\ Below w.heap.size w w' := by
 obtain ⟨y0, y1, hbw, yz⟩ := box2 w (.cells #[int i64 c.s, int i64 c.le, int i64 c.la, int i64 c.wi, int i64 c.ke, int i64 c.qu, .slice a c.n cap] 27) (.cells #[int i64 0, int i64 0, int i64 0, int i64 0, int i64 0, int i64 0, .slice none 0 0] 80)
 have HC := zac (clone_any c hc a cap _ (h.below hbw))
 have x6 : ((w.alloc (.cells #[int i64 c.s, int i64 c.le, int i64 c.la, int i64 c.wi, int i64 c.ke, int i64 c.qu, .slice a c.n cap] 27)).alloc (.cells #[int i64 0, int i64 0, int i64 0, int i64 0, int i64 0, int i64 0, .slice none 0 0] 80)).cell? ⟨w.heap.size, 6, none⟩ = some (.slice a c.n cap) := by rw [zab y0]; rfl
 clear h
 go_enter Tryz.func63, Tryz.ntmps63
 have Y0 := zac y0
 have Y1 := zac y1
 have HBW := zac hbw
 have YZ := zac yz
 clear y0 y1 hbw yz
 go_wp2_with fail
 generalize ((w.alloc (.cells #[int i64 c.s, int i64 c.le, int i64 c.la, int i64 c.wi, int i64 c.ke, int i64 c.qu, .slice a c.n cap] 27)).alloc (.cells #[int i64 0, int i64 0, int i64 0, int i64 0, int i64 0, int i64 0, .slice none 0 0] 80)) = X at *
 refine (ud HC).mono ?_
 rintro e w1 ⟨g, cap1, rfl, hown, hb1⟩
 have hq0 : w.heap.size < X.heap.size := by rw [ud YZ]; omega
 have hq1 : w.heap.size + 1 < X.heap.size := by rw [ud YZ]; omega
 have e0 := (hb1.block w.heap.size hq0).trans (ud Y0)
 have e1 := (hb1.block (w.heap.size + 1) hq1).trans (ud Y1)
 have z0 : w1.cell? ⟨w.heap.size, 0, none⟩ = some (int i64 c.s) := by rw [zab e0]; rfl
 have z1 : w1.cell? ⟨w.heap.size, 1, none⟩ = some (int i64 c.le) := by rw [zab e0]; rfl
 have z2 : w1.cell? ⟨w.heap.size, 2, none⟩ = some (int i64 c.la) := by rw [zab e0]; rfl
 have z3 : w1.cell? ⟨w.heap.size, 3, none⟩ = some (int i64 c.wi) := by rw [zab e0]; rfl
 have z4 : w1.cell? ⟨w.heap.size, 4, none⟩ = some (int i64 c.ke) := by rw [zab e0]; rfl
 have z5 : w1.cell? ⟨w.heap.size, 5, none⟩ = some (int i64 c.qu) := by rw [zab e0]; rfl
 have z6 : w1.cell? ⟨w.heap.size, 6, none⟩ = some (.slice a c.n cap) := by rw [zab e0]; rfl
 have zf := fun j => zax e0 j
 have r0 : w1.cell? ⟨w.heap.size + 1, 0, none⟩ = some (int i64 0) := by rw [zab e1]; rfl
 have r1 : w1.cell? ⟨w.heap.size + 1, 1, none⟩ = some (int i64 0) := by rw [zab e1]; rfl
 have r2 : w1.cell? ⟨w.heap.size + 1, 2, none⟩ = some (int i64 0) := by rw [zab e1]; rfl
 have r3 : w1.cell? ⟨w.heap.size + 1, 3, none⟩ = some (int i64 0) := by rw [zab e1]; rfl
 have r4 : w1.cell? ⟨w.heap.size + 1, 4, none⟩ = some (int i64 0) := by rw [zab e1]; rfl
 have r5 : w1.cell? ⟨w.heap.size + 1, 5, none⟩ = some (int i64 0) := by rw [zab e1]; rfl
 have r6 : w1.cell? ⟨w.heap.size + 1, 6, none⟩ = some (.slice none 0 0) := by rw [zab e1]; rfl
 have rf := fun j => zax e1 j
 have E0 := zac e0
 have E1 := zac e1
 have HOWN := zac hown
 have HB1 := zac hb1
 clear e0 e1 hown hb1
 go_wp2_with fail
 have hk1 := zay (w := w1) (g := w.heap.size) (i := 6) (k := w.heap.size + 1) (v := .slice (some ⟨g, 0, none⟩) c.n cap1) (by omega)
 have hf := set7 (hk1.trans (ud E1)) (int i64 c.s) (int i64 c.le) (int i64 c.la) (int i64 c.wi) (int i64 c.ke) (int i64 c.qu) (.slice (some ⟨g, 0, none⟩) c.n cap1)
 have hbz : Below X.heap.size X w1 := ud HB1
 have hKK : zaj (fun k => k = w.heap.size \/ k = w.heap.size + 1) w1 ((((((((w1.setCell ⟨w.heap.size, 6, none⟩ (.slice (some ⟨g, 0, none⟩) c.n cap1)).setCell ⟨w.heap.size + 1, 0, none⟩ (int i64 c.s)).setCell ⟨w.heap.size + 1, 1, none⟩ (int i64 c.le)).setCell ⟨w.heap.size + 1, 2, none⟩ (int i64 c.la)).setCell ⟨w.heap.size + 1, 3, none⟩ (int i64 c.wi)).setCell ⟨w.heap.size + 1, 4, none⟩ (int i64 c.ke)).setCell ⟨w.heap.size + 1, 5, none⟩ (int i64 c.qu)).setCell ⟨w.heap.size + 1, 6, none⟩ (.slice (some ⟨g, 0, none⟩) c.n cap1)) :=
  zae (zae (zae (zae (zae (zae (zae (zae (zaj.refl _ _) (.inl rfl)) (.inr rfl)) (.inr rfl)) (.inr rfl)) (.inr rfl)) (.inr rfl)) (.inr rfl)) (.inr rfl)
 refine bodyPost_ret (v := .agg #[int i64 c.s, int i64 c.le, int i64 c.la, int i64 c.wi, int i64 c.ke, int i64 c.qu, .slice (some ⟨g, 0, none⟩) c.n cap1]) (results_cell_row Tryz.results63 _ _ (w.heap.size + 1) _ _ _ _ rfl hf Tryz.underlying80 rfl (by kernel_rfl)) rfl ?_
 refine ⟨g, cap1, rfl, ?_, (ud HBW).trans ((hbz.mono (ud HBW).size).trans (hKK.below (Nat.le_trans (ud HBW).size hbz.size) (fun k hk => by rcases hk with rfl | rfl <;> omega)))⟩
 refine owns_base (zah (ud HOWN) hKK (fun k hk => ?_)) (Nat.le_of_lt hq0)
 have : X.heap.size <= k := by
  have hg : k = g := by simp [Value.ownBlock] at hk; exact hk.symm
  obtain ⟨g2, cap2, hv, hb2, _⟩ := (ud HOWN).form (by have := hc.n1; omega)
  cases hv; omega
 omega
set_option maxHeartbeats 2000000 in
theorem snew_any (c : Cf) (a : Option Addr) (cap : Nat) (w : World) :
  Calls Tryz.prog 64 #[.agg #[int i64 c.s, int i64 c.le, int i64 c.la, int i64 c.wi, int i64 c.ke, int i64 c.qu, .slice a c.n cap]] w fun e w' => ∃ s lb gb, e = .returned (.pointer (some ⟨s, 0, none⟩)) /\ w.heap.size <= s /\ w.heap.size <= lb /\ w.heap.size <= gb /\ gb ≠ lb /\ w'.heap[s]? = some (.cells #[int i64 c.s, int i64 c.le, int i64 c.la, int i64 c.wi, int i64 c.ke, int i64 c.qu, .slice a c.n cap, .map (some lb), .map (some gb)] 140 (0, 0)) /\ zev w' lb [] /\ zbs goneM w' gb [] /\ Below w.heap.size w w' := by
 have m1 : ∀ W : World, (Instr.makeMap 135 none).run Tryz.prog W = .ok (.map (some W.heap.size)) (W.alloc (.map #[] 0)) := fun W => by kernel_rfl
 have m2 : ∀ W : World, (Instr.makeMap 138 none).run Tryz.prog W = .ok (.map (some W.heap.size)) (W.alloc (.map #[] 0)) := fun W => by kernel_rfl
 go_enter Tryz.func64, Tryz.ntmps64
 go_wp2_with fail
 go_ret
 obtain ⟨h1, h2, h3, hb, hz⟩ := box3p w (.cells #[int i64 c.s, int i64 c.le, int i64 c.la, int i64 c.wi, int i64 c.ke, int i64 c.qu, .slice a c.n cap] 80) (.map #[] 0) (.map #[] 0)
 generalize (((w.alloc (.cells #[int i64 c.s, int i64 c.le, int i64 c.la, int i64 c.wi, int i64 c.ke, int i64 c.qu, .slice a c.n cap] 80)).alloc (.map #[] 0)).alloc (.map #[] 0)) = X at *
 have hl := zag X (.cells #[int i64 c.s, int i64 c.le, int i64 c.la, int i64 c.wi, int i64 c.ke, int i64 c.qu, .slice a c.n cap, .map (some (w.heap.size + 1)), .map (some (w.heap.size + 2))] 140)
 rw [hz] at hl
 refine ⟨w.heap.size + 3, w.heap.size + 1, w.heap.size + 2, rfl, by omega, by omega, by omega, by omega, hl, ⟨#[], 0, (Below.heap_alloc _ _ _ (by omega)).trans h2, ⟨rfl, by simp, by simp, by simp, by simp [zaq], by simp⟩⟩, ⟨#[], 0, (Below.heap_alloc _ _ _ (by omega)).trans h3, ⟨rfl, by simp, by simp, by simp, by simp [zas], by simp⟩⟩, hb.alloc hb.size _⟩
end Go.Proofs.YtpbimdkclnekeaaGreat

namespace Go.Proofs.YtpbimdkclnekeaaGreat
open Value (int)
open IntKind (i64)
open Go.RowKit
set_option linter.unusedVariables false
def zem (n : Nat) : Array Value := madeCells #[int i64 0, int i64 0, int i64 0] (n * 3)
theorem size_newTiersK (n : Nat) : (zem n).size = n * 3 := size_madeCells _ _
theorem make_tiersK (n : Nat) (hb : n <= 4) (wx : World) :
  (Instr.makeSlice 25 (int i64 (n : Int)) (int i64 (n : Int))).run Tryz.prog wx = .ok (.slice (some ⟨wx.heap.size, 0, none⟩) n n) (wx.alloc (.cells (zem n) 66)) := by
 have hi := Tryz.infoTierR
 cases hq : Tryz.prog.info? 66 with
 | none => simp [hq] at hi
 | some i =>
  simp only [hq, Option.map_some, Option.some.injEq, Prod.mk.injEq] at hi
  obtain ⟨hz, hs, hbt⟩ := hi
  have hr := run_make (P := Tryz.prog) wx 25 66 i _ Tryz.underlying25 hq hz .i64 .i64 (n : Int) (n : Int) (by omega) (by omega) (by rw [hbt]; omega) (by omega)
  rw [hr, hs]
  have e : ((n : Int)).toNat = n := by omega
  rw [e]; rfl
theorem set_row3 {w : World} {g n : Nat} {F W K : Nat -> Int} (hg : w.heap[g]? = some (.cells (row3 n F W K).toArray 66 (0, 0))) {B : Nat} (hB : B <= g) (hn : n <= 4) : w.ownsRow B 66 3 (.slice (some ⟨g, 0, none⟩) n n) n (row3 n F W K) :=
 ⟨by rw [zdd], .inr ⟨g, n, (row3 n F W K).toArray, rfl, hB, hg, ⟨Nat.le_refl _, by simp only [maxLen]; omega, by simp [zdd], by show List.take (n * 3) (row3 n F W K) = _; exact List.take_of_length_le (by rw [zdd]; omega)⟩⟩⟩
set_option maxRecDepth 8000 in
set_option maxHeartbeats 2000000 in
theorem copied_any (c : Cf) (hc : c.ok) (a : Option Addr) (cap : Nat) (w : World) (h : TS w a c.n c.F c.W c.K) :
  Calls Tryz.prog 27 #[.agg #[int i64 c.s, int i64 c.le, int i64 c.la, int i64 c.wi, int i64 c.ke, int i64 c.qu, .slice a c.n cap]] w fun e w' => ∃ g, e = .returned (.agg #[int i64 c.s, int i64 c.le, int i64 c.la, int i64 c.wi, int i64 c.ke, int i64 c.qu, .slice (some ⟨g, 0, none⟩) c.n c.n]) /\ w'.ownsRow w.heap.size 66 3 (.slice (some ⟨g, 0, none⟩) c.n c.n) c.n (row3 c.n c.F c.W c.K) /\ Below w.heap.size w w' := by
 have hn4 := hc.n4
 have hn1 := hc.n1
 obtain ⟨y0, y1, hbw, yz⟩ := box2 w (.cells #[int i64 c.s, int i64 c.le, int i64 c.la, int i64 c.wi, int i64 c.ke, int i64 c.qu, .slice a c.n cap] 27) (.cells #[int i64 0, int i64 0, int i64 0, int i64 0, int i64 0, int i64 0, .slice none 0 0] 27)
 have hmk := make_tiersK c.n hn4
 have hA : Below (((w.alloc (.cells #[int i64 c.s, int i64 c.le, int i64 c.la, int i64 c.wi, int i64 c.ke, int i64 c.qu, .slice a c.n cap] 27)).alloc (.cells #[int i64 0, int i64 0, int i64 0, int i64 0, int i64 0, int i64 0, .slice none 0 0] 27)).heap.size) ((w.alloc (.cells #[int i64 c.s, int i64 c.le, int i64 c.la, int i64 c.wi, int i64 c.ke, int i64 c.qu, .slice a c.n cap] 27)).alloc (.cells #[int i64 0, int i64 0, int i64 0, int i64 0, int i64 0, int i64 0, .slice none 0 0] 27)) (((w.alloc (.cells #[int i64 c.s, int i64 c.le, int i64 c.la, int i64 c.wi, int i64 c.ke, int i64 c.qu, .slice a c.n cap] 27)).alloc (.cells #[int i64 0, int i64 0, int i64 0, int i64 0, int i64 0, int i64 0, .slice none 0 0] 27)).alloc (.cells (zem c.n) 66)) := (Below.refl _ _).alloc (Nat.le_refl _) _
 have hts := (h.below hbw).below hA
 obtain ⟨w3, hcp, hR, hB3, hZ⟩ : ∃ w3, (Builtin.copy_ #[25, 25] 3 #[.slice (some ⟨w.heap.size + 2, 0, none⟩) c.n c.n, .slice a c.n cap]).run Tryz.prog (((w.alloc (.cells #[int i64 c.s, int i64 c.le, int i64 c.la, int i64 c.wi, int i64 c.ke, int i64 c.qu, .slice a c.n cap] 27)).alloc (.cells #[int i64 0, int i64 0, int i64 0, int i64 0, int i64 0, int i64 0, .slice none 0 0] 27)).alloc (.cells (zem c.n) 66)) = .ok (int i64 c.n) w3 /\ w3.heap[w.heap.size + 2]? = some (.cells (row3 c.n c.F c.W c.K).toArray 66 (0, 0)) /\ Below (w.heap.size + 2) (((w.alloc (.cells #[int i64 c.s, int i64 c.le, int i64 c.la, int i64 c.wi, int i64 c.ke, int i64 c.qu, .slice a c.n cap] 27)).alloc (.cells #[int i64 0, int i64 0, int i64 0, int i64 0, int i64 0, int i64 0, .slice none 0 0] 27)).alloc (.cells (zem c.n) 66)) w3 /\ w3.heap.size = w.heap.size + 3 := by
  have hg := zag ((w.alloc (.cells #[int i64 c.s, int i64 c.le, int i64 c.la, int i64 c.wi, int i64 c.ke, int i64 c.qu, .slice a c.n cap] 27)).alloc (.cells #[int i64 0, int i64 0, int i64 0, int i64 0, int i64 0, int i64 0, .slice none 0 0] 27)) (.cells (zem c.n) 66)
  have hsz := zbm ((w.alloc (.cells #[int i64 c.s, int i64 c.le, int i64 c.la, int i64 c.wi, int i64 c.ke, int i64 c.qu, .slice a c.n cap] 27)).alloc (.cells #[int i64 0, int i64 0, int i64 0, int i64 0, int i64 0, int i64 0, .slice none 0 0] 27)) (.cells (zem c.n) 66)
  rw [yz] at hg hsz
  have hr := run_copy_wide (P := Tryz.prog) (((w.alloc (.cells #[int i64 c.s, int i64 c.le, int i64 c.la, int i64 c.wi, int i64 c.ke, int i64 c.qu, .slice a c.n cap] 27)).alloc (.cells #[int i64 0, int i64 0, int i64 0, int i64 0, int i64 0, int i64 0, .slice none 0 0] 27)).alloc (.cells (zem c.n) 66)) 25 25 3 66 3 (w.heap.size + 2) c.n c.n a c.n cap (zem c.n) 66 (row3 c.n c.F c.W c.K) Tryz.underlying25 (by kernel_rfl) hg
   (by rw [zdd]; simp) (tsCells hts) (by rw [zdd, size_newTiersK]; omega) (row3_one _ _ _ _)
  have hm : Nat.min c.n c.n = c.n := by simp
  have hd : (zem c.n).toList.drop (c.n * 3) = [] := by apply List.drop_of_length_le; rw [Array.length_toList, size_newTiersK]; omega
  rw [hm, zdd, hd, List.append_nil] at hr
  refine ⟨_, hr, setRow_heap _ _ _ _ _ _ hg, below_setRow (Below.refl _ _) (Nat.le_refl _) _, ?_⟩
  simp only [World.setRow]
  simp
 have x0 := (hB3.block w.heap.size (by omega)).trans ((hA.block _ (zaa y0)).trans y0)
 have x1 := (hB3.block (w.heap.size + 1) (by omega)).trans ((hA.block _ (zaa y1)).trans y1)
 have c0 : w3.cell? ⟨w.heap.size, 0, none⟩ = some (int i64 c.s) := by rw [zab x0]; rfl
 have c1 : w3.cell? ⟨w.heap.size, 1, none⟩ = some (int i64 c.le) := by rw [zab x0]; rfl
 have c2 : w3.cell? ⟨w.heap.size, 2, none⟩ = some (int i64 c.la) := by rw [zab x0]; rfl
 have c3 : w3.cell? ⟨w.heap.size, 3, none⟩ = some (int i64 c.wi) := by rw [zab x0]; rfl
 have c4 : w3.cell? ⟨w.heap.size, 4, none⟩ = some (int i64 c.ke) := by rw [zab x0]; rfl
 have c5 : w3.cell? ⟨w.heap.size, 5, none⟩ = some (int i64 c.qu) := by rw [zab x0]; rfl
 have c6 : w3.cell? ⟨w.heap.size, 6, none⟩ = some (.slice a c.n cap) := by rw [zab x0]; rfl
 have cf := fun j => zax x0 j
 have z0 : w3.cell? ⟨w.heap.size + 1, 0, none⟩ = some (int i64 0) := by rw [zab x1]; rfl
 have z1 : w3.cell? ⟨w.heap.size + 1, 1, none⟩ = some (int i64 0) := by rw [zab x1]; rfl
 have z2 : w3.cell? ⟨w.heap.size + 1, 2, none⟩ = some (int i64 0) := by rw [zab x1]; rfl
 have z3 : w3.cell? ⟨w.heap.size + 1, 3, none⟩ = some (int i64 0) := by rw [zab x1]; rfl
 have z4 : w3.cell? ⟨w.heap.size + 1, 4, none⟩ = some (int i64 0) := by rw [zab x1]; rfl
 have z5 : w3.cell? ⟨w.heap.size + 1, 5, none⟩ = some (int i64 0) := by rw [zab x1]; rfl
 have z6 : w3.cell? ⟨w.heap.size + 1, 6, none⟩ = some (.slice none 0 0) := by rw [zab x1]; rfl
 have zf := fun j => zax x1 j
 have l0 := zaa x0
 have l1 := zaa x1
 have q6 : ((w.alloc (.cells #[int i64 c.s, int i64 c.le, int i64 c.la, int i64 c.wi, int i64 c.ke, int i64 c.qu, .slice a c.n cap] 27)).alloc (.cells #[int i64 0, int i64 0, int i64 0, int i64 0, int i64 0, int i64 0, .slice none 0 0] 27)).cell? ⟨w.heap.size, 6, none⟩ = some (.slice a c.n cap) := by rw [zab y0]; rfl
 have yl := zaa y0
 have HB : Hid (Below w.heap.size w w3) := hbw.trans ((hA.mono hbw.size).trans (hB3.mono (by omega)))
 have HR := zac hR
 have X1 := zac x1
 have YZ := zac yz
 clear hA hts hR hB3 x0 x1 y0 y1 hbw h
 go_enter Tryz.func27, Tryz.ntmps27
 go_wp2_with fail
 have hx1 := (zay (w := w3) (g := w.heap.size) (i := 6) (k := w.heap.size + 1) (v := .slice (some ⟨w.heap.size + 2, 0, none⟩) c.n c.n) (by omega)).trans (ud X1)
 have hf := set7 hx1 (int i64 c.s) (int i64 c.le) (int i64 c.la) (int i64 c.wi) (int i64 c.ke) (int i64 c.qu) (.slice (some ⟨w.heap.size + 2, 0, none⟩) c.n c.n)
 have hk9 : zaj (fun k => k = w.heap.size \/ k = w.heap.size + 1) w3 ((((((((w3.setCell ⟨w.heap.size, 6, none⟩ (.slice (some ⟨w.heap.size + 2, 0, none⟩) c.n c.n)).setCell ⟨w.heap.size + 1, 0, none⟩ (int i64 c.s)).setCell ⟨w.heap.size + 1, 1, none⟩ (int i64 c.le)).setCell ⟨w.heap.size + 1, 2, none⟩ (int i64 c.la)).setCell ⟨w.heap.size + 1, 3, none⟩ (int i64 c.wi)).setCell ⟨w.heap.size + 1, 4, none⟩ (int i64 c.ke)).setCell ⟨w.heap.size + 1, 5, none⟩ (int i64 c.qu)).setCell ⟨w.heap.size + 1, 6, none⟩ (.slice (some ⟨w.heap.size + 2, 0, none⟩) c.n c.n)) := zae (zae (zae (zae (zae (zae (zae (zae (zaj.refl _ _) (.inl rfl)) (.inr rfl)) (.inr rfl)) (.inr rfl)) (.inr rfl)) (.inr rfl)) (.inr rfl)) (.inr rfl)
 refine bodyPost_ret (v := .agg #[int i64 c.s, int i64 c.le, int i64 c.la, int i64 c.wi, int i64 c.ke, int i64 c.qu, .slice (some ⟨w.heap.size + 2, 0, none⟩) c.n c.n]) (results_cell_row Tryz.results27 _ _ (w.heap.size + 1) _ _ _ _ rfl hf Tryz.underlying27 rfl (by kernel_rfl)) rfl ?_
 exact ⟨w.heap.size + 2, rfl, set_row3 (hk9.heap (ud HR) (by omega)) (by omega) hn4, (ud HB).trans (hk9.below (ud HB).size (fun k e => by rcases e with rfl | rfl <;> omega))⟩
end Go.Proofs.YtpbimdkclnekeaaGreat

namespace Go.Proofs.YtpbimdkclnekeaaGreat
open Value (int)
open IntKind (i64)
open Go.RowKit Go.Maps Go.Shelf
set_option linter.unusedVariables false
def opNm : ByteArray := ⟨#[111, 112, 101, 110, 105, 110, 103, 115]⟩
def opDt : ByteArray := ⟨#[43]⟩
def opS1 : DS := ⟨[⟨opNm, opDt, 0⟩], -1, false⟩
def opS2 : DS := ⟨[⟨opNm, opDt, 1⟩], -1, false⟩
theorem op_eq : eqS opNm opNm = true := by simp [eqS]
theorem op_place : place opS1.files opNm = some 0 := by
 have := (placeI_some (l := opS1.files) (name := opNm) (i := 0) (f := ⟨opNm, opDt, 0⟩) rfl op_eq (fun j g hj _ => by omega)).1
 exact this
theorem op_place2 : place opS2.files opNm = some 0 := by
 have := (placeI_some (l := opS2.files) (name := opNm) (i := 0) (f := ⟨opNm, opDt, 1⟩) rfl op_eq (fun j g hj _ => by omega)).1
 exact this
theorem op_step : zaw newS = newS := by simp [zaw, zau, newS]
theorem op_step1 : zaw opS1 = opS1 := by simp [zaw, zau, opS1]
theorem op_a : zeb newS opNm opDt = opS1 := by
 rw [afterAppend_none (by simp [zau, newS]) (by simp [place, zek, newS]), op_step]; rfl
theorem op_s : afterSync opS1 opNm = opS2 := by
 rw [afterSync_some (i := 0) (f := ⟨opNm, opDt, 0⟩) (by simp [zau, opS1]) op_place rfl, op_step1]; rfl
theorem op_ok : DOk opS1 10 := by
 refine ⟨by show (-1 : Int) <= -1; omega, by show (-1 : Int) <= 9223372036854775807; omega, by show 1 <= 10; omega, fun f hf => ?_⟩
 have : f = ⟨opNm, opDt, 0⟩ := by simpa [opS1] using hf
 subst this
 exact ⟨Nat.zero_le _, by show 1 <= 10; omega⟩
theorem op_r : readD opS2 opNm = opDt := by unfold readD; rw [op_place2]; rfl
set_option maxHeartbeats 2000000 in
theorem begin_any (B p : Nat) (fs : Value) (w : World) (hB : B <= w.heap.size) (h : zba 119 185 B w p newS fs) :
  Calls Tryz.prog 62 #[.pointer (some ⟨p, 0, none⟩)] w fun e w' => e = .returned (.tuple #[int i64 1, .bool true]) /\ ∃ fs', zba 119 185 B w' p opS2 fs' /\ zaj (foot p fs) w w' /\ ∀ k, fs'.ownBlock = some k -> fs.ownBlock = some k \/ w.heap.size <= k := by
 have HA := zac (append_any B p newS fs opNm opDt w 10 (by omega) ⟨by simp [newS], by simp [newS], by simp [newS], by simp [newS]⟩ (by simp [opDt, ByteArray.size]) hB h)
 rw [op_a, show (!zau newS) = true from by simp [zau, newS]] at HA
 unfold opNm opDt at HA
 clear h
 go_enter Tryz.func62, Tryz.ntmps62
 go_wp2_with fail
 refine (ud HA).mono ?_
 rintro e w1 ⟨rfl, fs1, hd1, hk1, hf1⟩
 have hdk := op_ok
 have HS := zac (sync_any B p opS1 fs1 opNm w1 10 (by omega) hdk hd1)
 rw [op_s, show (!zau opS1) = true from by simp [zau, opS1]] at HS
 unfold opNm at HS
 have HK1 := zac hk1
 have HF1 := zac hf1
 clear hd1 hk1 hf1 hdk
 go_wp2_with fail
 refine (ud HS).mono ?_
 rintro e w2 ⟨rfl, hd2, hk2⟩
 have HR := zac (read_any B p opS2 fs1 opNm w2 10 (by omega) (by simp [opS2]) hd2)
 rw [op_r] at HR
 unfold opNm opDt at HR
 have HD2 := zac hd2
 have HK2 := zac hk2
 clear hd2 hk2
 go_wp2_with fail
 refine (ud HR).mono ?_
 rintro e w3 ⟨rfl, hw3⟩
 rw [hw3]
 clear hw3
 go_wp2_with fail
 refine bodyPost_ret (results_tmp2 rfl _ _ _) rfl ?_
 refine ⟨rfl, fs1, ud HD2, (ud HK1).trans (ud HK2) (fun i hi hk => ?_), ud HF1⟩
 rcases hk with rfl | hk
 ·exact .inl rfl
 ·rcases ud HF1 _ hk with h | h
  ·exact .inr h
  ·omega
theorem rowns_zero {w : World} {base size n : Nat} {e : TypeId} {v : Value} {xs : List Value} (h : w.ownsRow base e size v n xs) : w.ownsRow 0 e size v n xs := owns_base h (Nat.zero_le _)
def openPost (c : Cf) (B p : Nat) (fs : Value) (w : World) (e : Ending) (w' : World) : Prop :=
 ∃ (i : Ids) (fs' : Value), e = .returned (.tuple #[.pointer (some ⟨i.x, 0, none⟩), int i64 0]) /\ zat w' i c 1 ⟨0, [], [], 0, [], []⟩ /\ zba 119 185 B w' p opS2 fs' /\ zaj (foot p fs) w w' /\ (∀ k, fs'.ownBlock = some k -> fs.ownBlock = some k \/ w.heap.size <= k) /\ (∀ k, zbx i k -> w.heap.size <= k /\ ¬ foot p fs' k)
set_option maxRecDepth 8000 in
set_option maxHeartbeats 4000000 in
theorem popen_any (c : Cf) (hc : c.ok) (hr : zdh c.s c.le c.la c.wi c.ke c.qu c.n c.F c.W c.K = true) (a : Option Addr) (cap B p : Nat) (fs : Value) (w : World) (hB : B <= w.heap.size) (hd : zba 119 185 B w p newS fs) (hts : ∀ w', zaj (foot p fs) w w' -> TS w' a c.n c.F c.W c.K) :
  Calls Tryz.prog 26 #[.agg #[int i64 c.s, int i64 c.le, int i64 c.la, int i64 c.wi, int i64 c.ke, int i64 c.qu, .slice a c.n cap], .pointer (some ⟨p, 0, none⟩)] w (openPost c B p fs w) := by
 have hb0 : Below w.heap.size w (w.alloc (.cells #[int i64 c.s, int i64 c.le, int i64 c.la, int i64 c.wi, int i64 c.ke, int i64 c.qu, .slice a c.n cap] 27)) := (Below.refl _ _).alloc (Nat.le_refl _) _
 have HL0 := zac (zag w (.cells #[int i64 c.s, int i64 c.le, int i64 c.la, int i64 c.wi, int i64 c.ke, int i64 c.qu, .slice a c.n cap] 27))
 have HR := zac (millRight_any c.s c.le c.la c.wi c.ke c.qu a c.n cap c.F c.W c.K _ (hts _ (zaj.of_below hb0)))
 rw [hr, show codeOf true = 0 from rfl] at HR
 have HB0 := zac hb0
 have HD := zac hd
 have HTS := zac hts
 have hpz := hd.lt
 clear hd hts hb0
 go_enter Tryz.func26, Tryz.ntmps26
 go_wp2_with fail
 refine (ud HR).mono ?_
 rintro e w1 ⟨rfl, hb1⟩
 have hbw1 := (ud HB0).trans (hb1.mono (ud HB0).size)
 have HL1 := zac ((hb1.block w.heap.size (by rw [zbm]; omega)).trans (ud HL0))
 have HBG := zac (begin_any B p fs w1 (Nat.le_trans hB hbw1.size) ((ud HD).later hbw1))
 have HW1 := zac hbw1
 clear hb1 hbw1 HR
 go_wp2_with fail
 refine (ud HBG).mono ?_
 rintro e w2 ⟨rfl, fs2, hd2, hk2, hf2⟩
 have hz1 := (ud HW1).size
 have hfp : ¬ foot p fs w.heap.size := by
  rintro (h | h)
  ·omega
  ·have := own_lt (ud HD).row _ h; omega
 have hl2 := hk2.heap (ud HL1) hfp
 have hk02 : zaj (foot p fs) w w2 := (zaj.of_below (ud HW1)).trans hk2 (fun _ _ h => h)
 have z0 : w2.cell? ⟨w.heap.size, 0, none⟩ = some (int i64 c.s) := by rw [zab hl2]; rfl
 have z1 : w2.cell? ⟨w.heap.size, 1, none⟩ = some (int i64 c.le) := by rw [zab hl2]; rfl
 have z2 : w2.cell? ⟨w.heap.size, 2, none⟩ = some (int i64 c.la) := by rw [zab hl2]; rfl
 have z3 : w2.cell? ⟨w.heap.size, 3, none⟩ = some (int i64 c.wi) := by rw [zab hl2]; rfl
 have z4 : w2.cell? ⟨w.heap.size, 4, none⟩ = some (int i64 c.ke) := by rw [zab hl2]; rfl
 have z5 : w2.cell? ⟨w.heap.size, 5, none⟩ = some (int i64 c.qu) := by rw [zab hl2]; rfl
 have z6 : w2.cell? ⟨w.heap.size, 6, none⟩ = some (.slice a c.n cap) := by rw [zab hl2]; rfl
 have HLN := zac (lnew_any c hc a cap w2 (ud HTS _ hk02))
 have hz2 := hk2.size
 have HK02 := zac hk02
 have HD2 := zac hd2
 have HF2 := zac hf2
 clear hd2 hk2 hf2 hk02 hl2 HL1 HBG
 go_wp2_with fail
 refine (ud HLN).mono ?_
 rintro e w3 ⟨g, cap3, rfl, hown3, hb3⟩
 have HO3 := zac hown3
 have HB3 := zac hb3
 clear hown3 hb3 z0 z1 z2 z3 z4 z5 z6 HLN
 go_wp2_with fail
 have hbA := (ud HB3).alloc (ud HB3).size (.cells #[int i64 c.s, int i64 c.le, int i64 c.la, int i64 c.wi, int i64 c.ke, int i64 c.qu, .slice (some ⟨g, 0, none⟩) c.n cap3] 80)
 have hlA := zag w3 (.cells #[int i64 c.s, int i64 c.le, int i64 c.la, int i64 c.wi, int i64 c.ke, int i64 c.qu, .slice (some ⟨g, 0, none⟩) c.n cap3] 80)
 have hzA := zbm w3 (.cells #[int i64 c.s, int i64 c.le, int i64 c.la, int i64 c.wi, int i64 c.ke, int i64 c.qu, .slice (some ⟨g, 0, none⟩) c.n cap3] 80)
 have HOA := zac ((ud HO3).alloc (.cells #[int i64 c.s, int i64 c.le, int i64 c.la, int i64 c.wi, int i64 c.ke, int i64 c.qu, .slice (some ⟨g, 0, none⟩) c.n cap3] 80))
 generalize (w3.alloc (.cells #[int i64 c.s, int i64 c.le, int i64 c.la, int i64 c.wi, int i64 c.ke, int i64 c.qu, .slice (some ⟨g, 0, none⟩) c.n cap3] 80)) = X at *
 have x0 : X.cell? ⟨w3.heap.size, 0, none⟩ = some (int i64 c.s) := by rw [zab hlA]; rfl
 have x1 : X.cell? ⟨w3.heap.size, 1, none⟩ = some (int i64 c.le) := by rw [zab hlA]; rfl
 have x2 : X.cell? ⟨w3.heap.size, 2, none⟩ = some (int i64 c.la) := by rw [zab hlA]; rfl
 have x3 : X.cell? ⟨w3.heap.size, 3, none⟩ = some (int i64 c.wi) := by rw [zab hlA]; rfl
 have x4 : X.cell? ⟨w3.heap.size, 4, none⟩ = some (int i64 c.ke) := by rw [zab hlA]; rfl
 have x5 : X.cell? ⟨w3.heap.size, 5, none⟩ = some (int i64 c.qu) := by rw [zab hlA]; rfl
 have x6 : X.cell? ⟨w3.heap.size, 6, none⟩ = some (.slice (some ⟨g, 0, none⟩) c.n cap3) := by rw [zab hlA]; rfl
 have hqX : w3.heap.size < X.heap.size := by omega
 have HS := fun W => zac (snew_any c (some ⟨g, 0, none⟩) cap3 W)
 have HJ := fun W => zac (bnew_any c (some ⟨g, 0, none⟩) cap3 1 W)
 have HBA := zac hbA
 have HZA := zac hzA
 clear hbA hlA hzA
 go_region_held3 (fun w' => w'.cell? ⟨w3.heap.size, 0, none⟩ = some (int i64 c.s) /\ w'.cell? ⟨w3.heap.size, 1, none⟩ = some (int i64 c.le) /\ w'.cell? ⟨w3.heap.size, 2, none⟩ = some (int i64 c.la) /\ w'.cell? ⟨w3.heap.size, 3, none⟩ = some (int i64 c.wi) /\ w'.cell? ⟨w3.heap.size, 4, none⟩ = some (int i64 c.ke) /\ w'.cell? ⟨w3.heap.size, 5, none⟩ = some (int i64 c.qu) /\ w'.cell? ⟨w3.heap.size, 6, none⟩ = some (.slice (some ⟨g, 0, none⟩) c.n cap3)) (go_keep) (first
  | (go_at_call 64; (with_reducible refine (ud (HS _)).mono ?_); rintro e V ⟨s1, lb1, gb1, rfl, b1, b2, b3, b4, v1, v2, v3, v4⟩; have hbV : Below X.heap.size X V := ⟨v4.os, v4.tape, v4.output, v4.size, v4.block⟩; have HBS : Hid (X.heap.size <= s1 /\ X.heap.size <= lb1 /\ X.heap.size <= gb1) := ⟨b1, b2, b3⟩; have B4 := zac b4; have V1 := zac v1; have V2 := zac v2; have V3 := zac v3; clear v1 v2 v3 v4 b1 b2 b3 b4; have y0 : V.cell? ⟨w3.heap.size, 0, none⟩ = some (int i64 c.s) := (hbV.cell (p := ⟨w3.heap.size, 0, none⟩) hqX).trans x0; have y1 : V.cell? ⟨w3.heap.size, 1, none⟩ = some (int i64 c.le) := (hbV.cell (p := ⟨w3.heap.size, 1, none⟩) hqX).trans x1; have y2 : V.cell? ⟨w3.heap.size, 2, none⟩ = some (int i64 c.la) := (hbV.cell (p := ⟨w3.heap.size, 2, none⟩) hqX).trans x2; have y3 : V.cell? ⟨w3.heap.size, 3, none⟩ = some (int i64 c.wi) := (hbV.cell (p := ⟨w3.heap.size, 3, none⟩) hqX).trans x3; have y4 : V.cell? ⟨w3.heap.size, 4, none⟩ = some (int i64 c.ke) := (hbV.cell (p := ⟨w3.heap.size, 4, none⟩) hqX).trans x4; have y5 : V.cell? ⟨w3.heap.size, 5, none⟩ = some (int i64 c.qu) := (hbV.cell (p := ⟨w3.heap.size, 5, none⟩) hqX).trans x5; have y6 : V.cell? ⟨w3.heap.size, 6, none⟩ = some (.slice (some ⟨g, 0, none⟩) c.n cap3) := (hbV.cell (p := ⟨w3.heap.size, 6, none⟩) hqX).trans x6; have hqV : w3.heap.size < V.heap.size := Nat.lt_of_lt_of_le hqX hbV.size; have HBV := zac hbV; clear hbV HS)
  | (go_at_call 65; (with_reducible refine (ud (HJ _)).mono ?_); rintro e U ⟨b1, tb1, qb1, rfl, d1, d2, d3, u1, u4⟩; have hbU : Below V.heap.size V U := ⟨u4.os, u4.tape, u4.output, u4.size, u4.block⟩; have HBJ : Hid (V.heap.size <= b1 /\ V.heap.size <= tb1 /\ V.heap.size <= qb1) := ⟨d1, d2, d3⟩; have U1 := zac u1; clear u1 u4 d1 d2 d3; have z0 : U.cell? ⟨w3.heap.size, 0, none⟩ = some (int i64 c.s) := (hbU.cell (p := ⟨w3.heap.size, 0, none⟩) hqV).trans y0; have z1 : U.cell? ⟨w3.heap.size, 1, none⟩ = some (int i64 c.le) := (hbU.cell (p := ⟨w3.heap.size, 1, none⟩) hqV).trans y1; have z2 : U.cell? ⟨w3.heap.size, 2, none⟩ = some (int i64 c.la) := (hbU.cell (p := ⟨w3.heap.size, 2, none⟩) hqV).trans y2; have z3 : U.cell? ⟨w3.heap.size, 3, none⟩ = some (int i64 c.wi) := (hbU.cell (p := ⟨w3.heap.size, 3, none⟩) hqV).trans y3; have z4 : U.cell? ⟨w3.heap.size, 4, none⟩ = some (int i64 c.ke) := (hbU.cell (p := ⟨w3.heap.size, 4, none⟩) hqV).trans y4; have z5 : U.cell? ⟨w3.heap.size, 5, none⟩ = some (int i64 c.qu) := (hbU.cell (p := ⟨w3.heap.size, 5, none⟩) hqV).trans y5; have z6 : U.cell? ⟨w3.heap.size, 6, none⟩ = some (.slice (some ⟨g, 0, none⟩) c.n cap3) := (hbU.cell (p := ⟨w3.heap.size, 6, none⟩) hqV).trans y6; have hqU : w3.heap.size < U.heap.size := Nat.lt_of_lt_of_le hqV hbU.size; have HBU := zac hbU; clear hbU HJ))
 go_wp2_with fail
 refine bodyPost_ret (results_tmp2 rfl _ _ _) rfl ?_
 have hbV := ud HBV
 have hbU := ud HBU
 have hb2V := (ud HBA).trans (hbV.mono (ud HBA).size)
 have hb2U := hb2V.trans (hbU.mono hb2V.size)
 have hb2Z := hb2U.alloc hb2U.size (.cells #[int i64 c.s, int i64 c.le, int i64 c.la, int i64 c.wi, int i64 c.ke, int i64 c.qu, .slice (some ⟨g, 0, none⟩) c.n cap3, int i64 1, int i64 0, .pointer (some ⟨s1, 0, none⟩), .pointer (some ⟨b1, 0, none⟩)] 84)
 have hUZ : Below U.heap.size U (U.alloc (.cells #[int i64 c.s, int i64 c.le, int i64 c.la, int i64 c.wi, int i64 c.ke, int i64 c.qu, .slice (some ⟨g, 0, none⟩) c.n cap3, int i64 1, int i64 0, .pointer (some ⟨s1, 0, none⟩), .pointer (some ⟨b1, 0, none⟩)] 84)) := (Below.refl _ _).alloc (Nat.le_refl _) _
 have hXV := hbV.size
 have hVU := hbU.size
 have h2X := (ud HBA).size
 obtain ⟨s0, s9, s8⟩ := ud HBS
 obtain ⟨j0, j9, j8⟩ := ud HBJ
 have hs1 := zaa (ud V1)
 have hl1 : lb1 < V.heap.size := by obtain ⟨es, cl, hb, _⟩ := ud V2; exact zaa hb
 have hg1 := (ud V3).lt
 have hbl := (ud U1).foot_lt
 obtain ⟨g2, cap2, hgv, hgb, hgl⟩ := (ud HOA).form (by have := hc.n1; omega)
 have hgg : g2 = g := by injection hgv with h1 _ _; injection h1 with h1; injection h1 with h1; exact h1.symm
 subst hgg
 refine ⟨⟨U.heap.size, s1, lb1, gb1, b1, tb1, qb1, .slice (some ⟨g2, 0, none⟩) c.n cap3⟩, fs2, rfl, ⟨zag _ _, ⟨(hUZ.block _ (by show s1 < _; omega)).trans ((hbU.block _ hs1).trans (ud V1)), ?_, ((ud V2).later hbU).later hUZ, ((ud V3).later hbU).later hUZ, ud B4⟩, (ud U1).later hUZ, by show lb1 ≠ tb1; omega, by show lb1 ≠ qb1; omega, by show gb1 ≠ tb1; omega, by show gb1 ≠ qb1; omega⟩, (ud HD2).later hb2Z, (ud HK02).trans (zaj.of_below (f := foot p fs) hb2Z) (fun _ _ h => h), fun k hk => ?_, fun k hk => ?_⟩
 ·exact zff (zff (zff (rowns_zero (ud HOA)) hbV) hbU) hUZ
 ·rcases ud HF2 k hk with h | h
  ·exact .inl h
  ·right; omega
 ·have hk2 : w2.heap.size <= k := by
   rcases hk with e | hk | hk
   ·have : k = U.heap.size := e
    omega
   ·rcases hk with e | e | e | e
    ·have : k = s1 := e
     omega
    ·have e' : (Value.slice (some ⟨g2, 0, none⟩) c.n cap3).ownBlock = some k := e
     simp [Value.ownBlock] at e'; subst e'; exact hgb
    ·have : k = lb1 := e
     omega
    ·have : k = gb1 := e
     omega
   ·rcases hk with e | e | e
    ·have : k = b1 := e
     omega
    ·have : k = tb1 := e
     omega
    ·have : k = qb1 := e
     omega
  refine ⟨by omega, fun hf => ?_⟩
  rcases hf with rfl | hf
  ·omega
  ·have := own_lt (ud HD2).row k hf; omega
end Go.Proofs.YtpbimdkclnekeaaGreat
