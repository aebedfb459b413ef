import Derived.Test.YtpbimdkclnekeaaGreatTRefO
import Derived.Test.YtpbimdkclnekeaaGreatTZet7
import Derived.Test.YtpbimdkclnekeaaGreatTJn1
import Derived.Test.YtpbimdkclnekeaaGreatTTel0
import Derived.Test.YtpbimdkclnekeaaGreatTKit0
import Derived.Test.YtpbimdkclnekeaaGreatTConf4
import Derived.Test.YtpbimdkclnekeaaGreatTMlz5
import Derived.Test.YtpbimdkclnekeaaGreatTConf3
import Derived.Test.YtpbimdkclnekeaaGreatTMlz0
import Derived.Test.YtpbimdkclnekeaaGreatTPst0
import Derived.Test.YtpbimdkclnekeaaGreatTOrd2
import Derived.Sort.Grow
import Derived.Sort.Statements
import Derived.Deep.Draws
import Derived.Test.YtpbimdkclnekeaaGreatTShp0

namespace Go.Proofs.YtpbimdkclnekeaaGreat
open Go.RowKit Go.Maps Go.Shelf
open Go.ChangeMaps (setBlock)
set_option linter.unusedVariables false
theorem kept11 {w : World} {g : Nat} (b0 b1 b2 b3 b4 b5 b6 b7 b8 b9 b10 : Value) : zan (fun k => k = g) w (((((((((((w.setCell ⟨g, 0, none⟩ b0).setCell ⟨g, 1, none⟩ b1).setCell ⟨g, 2, none⟩ b2).setCell ⟨g, 3, none⟩ b3).setCell ⟨g, 4, none⟩ b4).setCell ⟨g, 5, none⟩ b5).setCell ⟨g, 6, none⟩ b6).setCell ⟨g, 7, none⟩ b7).setCell ⟨g, 8, none⟩ b8).setCell ⟨g, 9, none⟩ b9).setCell ⟨g, 10, none⟩ b10) := (zag (zag (zag (zag (zag (zag (zag (zag (zag (zag (zag (zan.refl (fun k => k = g) w) rfl) rfl) rfl) rfl) rfl) rfl) rfl) rfl) rfl) rfl) rfl)
end Go.Proofs.YtpbimdkclnekeaaGreat

namespace Go.Proofs.YtpbimdkclnekeaaGreat
open Value (int)
open IntKind (i64)
open Go.RowKit
set_option linter.unusedVariables false
set_option maxRecDepth 8000 in
set_option maxHeartbeats 8000000 in
theorem asked_stats {w : World} {wb po x d r : Nat} {c : Cf} {ct mv td : Value} {ep : Int} (hhd : w.heap[po]? = some (zay x d c ct mv td ep)) (hmay : w.ownsRow 0 108 1 mv 1 [.pointer (some ⟨r, 0, none⟩)]) (o : Ops) {now U T A1 A2 A3 A4 : Int}
  (HP0 : ∀ V, Below w.heap.size w V -> Calls Tryz.prog 13 #[.pointer (some ⟨x, 0, none⟩)] V fun e V' => e = .returned (.agg #[int i64 now, int i64 U, int i64 T, int i64 ep, int i64 A1, int i64 A2, int i64 A3, int i64 A4]) /\ Below V.heap.size V V')
  (HR0 : ∀ V, Below w.heap.size w V -> Calls Tryz.prog 108 #[.pointer (some ⟨r, 0, none⟩)] V fun e V' => e = .returned (.agg #[int i64 now, int i64 U, int i64 T, int i64 ep, int i64 A1, int i64 A2, int i64 A3, int i64 A4]) /\ Below V.heap.size V V') :
  Calls Tryz.prog 56 #[.pointer (some ⟨wb, 0, none⟩), .pointer (some ⟨po, 0, none⟩), .agg #[int i64 5, int i64 o.on, int i64 o.a, int i64 o.b, int i64 o.c, .int .i32 o.v, int i64 o.te, int i64 o.tn, int i64 o.fs, int i64 o.fle, int i64 o.fla, int i64 o.fwi, int i64 o.fke, int i64 o.fqu, .slice o.fa o.fn o.fcap]] w fun e w' => e = .returned (.bool true) /\ ∃ (Z : World) (g cap : Nat), w' = Z.setCell ⟨po, 9, none⟩ (.slice (some ⟨g, 0, none⟩) 1 cap) /\ Below w.heap.size w Z /\ Z.ownsRow 0 108 1 (.slice (some ⟨g, 0, none⟩) 1 cap) 1 [.pointer (some ⟨r, 0, none⟩)] /\ w.heap.size <= g := by
 have hpl := zaa hhd
 obtain ⟨y0, y1, y2, hbw, yz⟩ := box3p w (.cells #[int i64 5, int i64 o.on, int i64 o.a, int i64 o.b, int i64 o.c, .int .i32 o.v, int i64 o.te, int i64 o.tn, int i64 o.fs, int i64 o.fle, int i64 o.fla, int i64 o.fwi, int i64 o.fke, int i64 o.fqu, .slice o.fa o.fn o.fcap] 68) (.cells #[int i64 0, int i64 0, .int .i32 0, .int .i32 0] 114) (.cells #[int i64 0, int i64 0, int i64 0, int i64 0, int i64 0, int i64 0, int i64 0, int i64 0] 37)
 have HPS := zab (HP0 _ hbw)
 have HRS := fun (V : World) (hb : Below w.heap.size w V) => zab (HR0 V hb)
 obtain ⟨mb, mcap, hmv, _, hmbl⟩ := hmay.form (by omega)
 have HMB : Hid (w.cell? ⟨mb, 0, none⟩ = some (.pointer (some ⟨r, 0, none⟩))) := by
  have := hmay
  rw [hmv] at this
  show _ = _
  rw [this.cellAt 0 (by omega)]; rfl
 have p0 : (((w.alloc (.cells #[int i64 5, int i64 o.on, int i64 o.a, int i64 o.b, int i64 o.c, .int .i32 o.v, int i64 o.te, int i64 o.tn, int i64 o.fs, int i64 o.fle, int i64 o.fla, int i64 o.fwi, int i64 o.fke, int i64 o.fqu, .slice o.fa o.fn o.fcap] 68)).alloc (.cells #[int i64 0, int i64 0, .int .i32 0, .int .i32 0] 114)).alloc (.cells #[int i64 0, int i64 0, int i64 0, int i64 0, int i64 0, int i64 0, int i64 0, int i64 0] 37)).cell? ⟨po, 0, none⟩ = some (.pointer (some ⟨x, 0, none⟩)) := by have hq := (hbw.block po hpl).trans hhd; unfold zay at hq; rw [zac hq]; rfl
 have HHD := zab hhd
 go_enter Tryz.func56, Tryz.ntmps56
 have Y0 := zab y0
 have Y2 := zab y2
 have HBW := zab hbw
 have YZ := zab yz
 clear y0 y1 y2 hbw yz HP0 HR0
 go_wp2_with fail
 generalize (((w.alloc (.cells #[int i64 5, int i64 o.on, int i64 o.a, int i64 o.b, int i64 o.c, .int .i32 o.v, int i64 o.te, int i64 o.tn, int i64 o.fs, int i64 o.fle, int i64 o.fla, int i64 o.fwi, int i64 o.fke, int i64 o.fqu, .slice o.fa o.fn o.fcap] 68)).alloc (.cells #[int i64 0, int i64 0, .int .i32 0, .int .i32 0] 114)).alloc (.cells #[int i64 0, int i64 0, int i64 0, int i64 0, int i64 0, int i64 0, int i64 0, int i64 0] 37)) = X at *
 refine (ud HPS).mono ?_
 rintro e V ⟨rfl, hbV⟩
 have hXz : X.heap.size = w.heap.size + 3 := ud YZ
 have hzV := (hbV.block (w.heap.size + 2) (by omega)).trans (ud Y2)
 have hoV := (hbV.block w.heap.size (by omega)).trans (ud Y0)
 have z0 : V.cell? ⟨w.heap.size + 2, 0, none⟩ = some (int i64 0) := by rw [zac hzV]; rfl
 have z1 : V.cell? ⟨w.heap.size + 2, 1, none⟩ = some (int i64 0) := by rw [zac hzV]; rfl
 have z2 : V.cell? ⟨w.heap.size + 2, 2, none⟩ = some (int i64 0) := by rw [zac hzV]; rfl
 have z3 : V.cell? ⟨w.heap.size + 2, 3, none⟩ = some (int i64 0) := by rw [zac hzV]; rfl
 have z4 : V.cell? ⟨w.heap.size + 2, 4, none⟩ = some (int i64 0) := by rw [zac hzV]; rfl
 have z5 : V.cell? ⟨w.heap.size + 2, 5, none⟩ = some (int i64 0) := by rw [zac hzV]; rfl
 have z6 : V.cell? ⟨w.heap.size + 2, 6, none⟩ = some (int i64 0) := by rw [zac hzV]; rfl
 have z7 : V.cell? ⟨w.heap.size + 2, 7, none⟩ = some (int i64 0) := by rw [zac hzV]; rfl
 have zf := fun j => zaz hzV j
 have v0 : V.cell? ⟨w.heap.size, 0, none⟩ = some (int i64 5) := by rw [zac hoV]; rfl
 have hs8 := row8s hzV (int i64 now) (int i64 U) (int i64 T) (int i64 ep) (int i64 A1) (int i64 A2) (int i64 A3) (int i64 A4)
 have hwV := (ud HBW).trans (hbV.mono (ud HBW).size)
 have hk8 : zan (fun k => k = w.heap.size + 2) V ((((((((V.setCell ⟨w.heap.size + 2, 0, none⟩ (int i64 now)).setCell ⟨w.heap.size + 2, 1, none⟩ (int i64 U)).setCell ⟨w.heap.size + 2, 2, none⟩ (int i64 T)).setCell ⟨w.heap.size + 2, 3, none⟩ (int i64 ep)).setCell ⟨w.heap.size + 2, 4, none⟩ (int i64 A1)).setCell ⟨w.heap.size + 2, 5, none⟩ (int i64 A2)).setCell ⟨w.heap.size + 2, 6, none⟩ (int i64 A3)).setCell ⟨w.heap.size + 2, 7, none⟩ (int i64 A4)) := zag (i := 7) (zag (i := 6) (zag (i := 5) (zag (i := 4) (zag (i := 3) (zag (i := 2) (zag (i := 1) (zag (i := 0) (zan.refl _ _) rfl) rfl) rfl) rfl) rfl) rfl) rfl) rfl
 have hVl : w.heap.size + 2 < V.heap.size := zaa hzV
 have hqV : w.heap.size < V.heap.size := by omega
 have HO8 := zab (hk8.heap hoV (by omega))
 have hw8 : Below w.heap.size w ((((((((V.setCell ⟨w.heap.size + 2, 0, none⟩ (int i64 now)).setCell ⟨w.heap.size + 2, 1, none⟩ (int i64 U)).setCell ⟨w.heap.size + 2, 2, none⟩ (int i64 T)).setCell ⟨w.heap.size + 2, 3, none⟩ (int i64 ep)).setCell ⟨w.heap.size + 2, 4, none⟩ (int i64 A1)).setCell ⟨w.heap.size + 2, 5, none⟩ (int i64 A2)).setCell ⟨w.heap.size + 2, 6, none⟩ (int i64 A3)).setCell ⟨w.heap.size + 2, 7, none⟩ (int i64 A4)) := hwV.trans (hk8.below (Nat.le_of_lt hqV) (fun k hk => by omega))
 have HVW := zab (views_any (w := ((((((((V.setCell ⟨w.heap.size + 2, 0, none⟩ (int i64 now)).setCell ⟨w.heap.size + 2, 1, none⟩ (int i64 U)).setCell ⟨w.heap.size + 2, 2, none⟩ (int i64 T)).setCell ⟨w.heap.size + 2, 3, none⟩ (int i64 ep)).setCell ⟨w.heap.size + 2, 4, none⟩ (int i64 A1)).setCell ⟨w.heap.size + 2, 5, none⟩ (int i64 A2)).setCell ⟨w.heap.size + 2, 6, none⟩ (int i64 A3)).setCell ⟨w.heap.size + 2, 7, none⟩ (int i64 A4))) (by rw [<- hmv]; exact (hw8.block po hpl).trans (ud HHD)) ((hw8.cell (p := ⟨mb, 0, none⟩) hmbl).trans (ud HMB)) (Nat.lt_of_lt_of_le hmbl hw8.size))
 have HS8 := zab hs8
 have HW8 := zab hw8
 have hne0 : ¬ w.heap.size = w.heap.size + 2 := by omega
 clear hbV hzV hoV hs8 hk8 hw8 hwV HPS p0
 go_wp2_with fail
 generalize ((((((((V.setCell ⟨w.heap.size + 2, 0, none⟩ (int i64 now)).setCell ⟨w.heap.size + 2, 1, none⟩ (int i64 U)).setCell ⟨w.heap.size + 2, 2, none⟩ (int i64 T)).setCell ⟨w.heap.size + 2, 3, none⟩ (int i64 ep)).setCell ⟨w.heap.size + 2, 4, none⟩ (int i64 A1)).setCell ⟨w.heap.size + 2, 5, none⟩ (int i64 A2)).setCell ⟨w.heap.size + 2, 6, none⟩ (int i64 A3)).setCell ⟨w.heap.size + 2, 7, none⟩ (int i64 A4)) = X8 at *
 refine (ud HVW).mono ?_
 rintro e W1 ⟨g1, cap1, rfl, hrow1, hb1⟩
 have ho1 := (hb1.block w.heap.size (zaa (ud HO8))).trans (ud HO8)
 have hw1 := (ud HW8).trans (hb1.mono (ud HW8).size)
 have q0 : W1.cell? ⟨w.heap.size, 0, none⟩ = some (int i64 5) := by rw [zac ho1]; rfl
 have g0 : W1.cell? ⟨g1, 0, none⟩ = some (.pointer (some ⟨r, 0, none⟩)) := by rw [hrow1.cellAt 0 (by omega)]; rfl
 have HR1 := HRS W1 hw1
 have HS1 := zab ((hb1.block (w.heap.size + 2) (zaa (ud HS8))).trans (ud HS8))
 have HO1 := zab ho1
 have HW1 := zab hw1
 have HROW := zab hrow1
 clear ho1 hw1 hrow1 hb1 z0 z1 z2 z3 z4 z5 z6 z7 zf v0 HVW HRS
 go_wp2_with fail
 refine wp_loop_rounds 2 ?_
 rw [rounds_succ]
 go_wp2_with fail
 refine (ud HR1).mono ?_
 rintro e U1 ⟨rfl, hb2⟩
 have hs1 := (hb2.block (w.heap.size + 2) (zaa (ud HS1))).trans (ud HS1)
 have s0 : U1.cell? ⟨w.heap.size + 2, 0, none⟩ = some (int i64 now) := by rw [zac hs1]; rfl
 have s1 : U1.cell? ⟨w.heap.size + 2, 1, none⟩ = some (int i64 U) := by rw [zac hs1]; rfl
 have s2 : U1.cell? ⟨w.heap.size + 2, 2, none⟩ = some (int i64 T) := by rw [zac hs1]; rfl
 have s3 : U1.cell? ⟨w.heap.size + 2, 3, none⟩ = some (int i64 ep) := by rw [zac hs1]; rfl
 have s4 : U1.cell? ⟨w.heap.size + 2, 4, none⟩ = some (int i64 A1) := by rw [zac hs1]; rfl
 have s5 : U1.cell? ⟨w.heap.size + 2, 5, none⟩ = some (int i64 A2) := by rw [zac hs1]; rfl
 have s6 : U1.cell? ⟨w.heap.size + 2, 6, none⟩ = some (int i64 A3) := by rw [zac hs1]; rfl
 have s7 : U1.cell? ⟨w.heap.size + 2, 7, none⟩ = some (int i64 A4) := by rw [zac hs1]; rfl
 have hg1 : g1 < W1.heap.size := own_lt (ud HROW) g1 rfl
 have g2 : U1.cell? ⟨g1, 0, none⟩ = some (.pointer (some ⟨r, 0, none⟩)) := (hb2.cell (p := ⟨g1, 0, none⟩) hg1).trans g0
 have hsl := zaa hs1
 have hg2 : g1 < U1.heap.size := Nat.lt_of_lt_of_le hg1 hb2.size
 have hm0 : 0 < 1 := by decide
 have hm1 : 0 + 1 <= maxLen := by simp [maxLen]
 have hm2 : (0 + 1) * 8 <= 140737488355328 := by omega
 have HB2 := zab hb2
 clear hs1 hb2 HR1
 go_wp2_with (first | (at_builtin; refine zbg rfl _ _ 104 rfl 0 108 _ 1 8 Tryz.underlying104 Tryz.infoRefP rfl (by decide) (.slice none 0 0) 0 [] rfl (World.ownsRow_nil _ _ _ _) ⟨U1.heap.size + 1, 0, none⟩ 1 1 [.pointer (some ⟨r, 0, none⟩)] rfl rfl (World.news_of_block (cs := #[.pointer (some ⟨r, 0, none⟩)]) (heap_second U1 _ _)) (by intro u hu; simp at hu; subst hu; rfl) hm0 hm1 hm2 (Nat.zero_le _) ?_; intro g gcap W4 hown4 hold4 hgrow4 hat4 hlt4; have HO4 := zab hown4; have HG4 := zab hgrow4; have HA4 := zab hat4; clear hown4 hold4 hgrow4 hat4) | go_in)
 have hbU : Below U1.heap.size U1 ((U1.alloc (.cells #[int i64 now, int i64 U, int i64 T, int i64 ep, int i64 A1, int i64 A2, int i64 A3, int i64 A4] 37)).alloc (.cells #[.pointer (some ⟨r, 0, none⟩)] 108)) := (box2 U1 _ _).2.2.1
 have hbUW : Below U1.heap.size U1 W4 := hbU.grown (show ((U1.alloc (.cells #[int i64 now, int i64 U, int i64 T, int i64 ep, int i64 A1, int i64 A2, int i64 A3, int i64 A4] 37)).alloc (.cells #[.pointer (some ⟨r, 0, none⟩)] 108)).grownBy W4 none from ud HG4) hbU.size (fun k e => by cases e)
 have hb1W : Below W1.heap.size W1 W4 := (ud HB2).trans (hbUW.mono (ud HB2).size)
 have hwW : Below w.heap.size w W4 := (ud HW1).trans (hb1W.mono (ud HW1).size)
 have hp4 := (hwW.block po hpl).trans (ud HHD)
 have ho4 := (hb1W.block w.heap.size (zaa (ud HO1))).trans (ud HO1)
 have k9 : W4.cell? ⟨po, 9, none⟩ = some mv := by have hq := hp4; unfold zay at hq; rw [zac hq]; rfl
 have k13 : W4.cell? ⟨po, 13, none⟩ = some (.bool false) := by have hq := hp4; unfold zay at hq; rw [zac hq]; rfl
 have kf4 : ∀ j, W4.frozen? ⟨po, j, none⟩ = false := fun j => by have hq := hp4; unfold zay at hq; exact zaz hq j
 have k0 : W4.cell? ⟨w.heap.size, 0, none⟩ = some (int i64 5) := by rw [zac ho4]; rfl
 have hpo4 := zaa hp4
 have HP4 := zab hp4
 have HWW := zab hwW
 clear hbU hbUW hb1W hwW hp4 ho4 s0 s1 s2 s3 s4 s5 s6 s7 g0 g2 q0
 rw [rounds_succ]
 go_wp2_with fail
 go_ret
 have hg4 : w.heap.size <= g := by
  rcases ud HA4 with h | h
  ·cases h
  ·rw [h]
   have z1 := (ud HB2).size; have z2 := (ud HW1).size; have z3 := (box2 U1 (.cells #[int i64 now, int i64 U, int i64 T, int i64 ep, int i64 A1, int i64 A2, int i64 A3, int i64 A4] 37) (.cells #[.pointer (some ⟨r, 0, none⟩)] 108)).2.2.2; omega
 exact ⟨rfl, _, g, gcap, rfl, ud HWW, ud HO4, hg4⟩
end Go.Proofs.YtpbimdkclnekeaaGreat

namespace Go.Proofs.YtpbimdkclnekeaaGreat
open Value (int)
open IntKind (i64)
open Go.RowKit Go.Maps Go.Shelf
open Go.ChangeMaps (setBlock)
set_option linter.unusedVariables false
set_option maxRecDepth 20000 in
set_option maxHeartbeats 4000000 in
theorem mtick_bad {w : World} {i : Ids} {c : Cf} {ep : Int} {m : MS} (h : zbb w i c ep m) (n : Int) (hn : n < 1 \/ 1000 < n \/ 100000 < m.now + n) (hnow : 0 <= m.now /\ m.now <= 100000) :
  Calls Tryz.prog 36 #[.pointer (some ⟨i.x, 0, none⟩), int i64 n] w fun e w' => e = .returned (int i64 5) /\ Below w.heap.size w w' := by
 obtain ⟨-, -, -, -, -, -, -, -, c8, -, -⟩ := h.cells
 have hxl := h.lt
 obtain ⟨hn1, hn2⟩ := hnow
 clear h
 by_cases h1 : n < 1
 ·clear hn
  go_enter Tryz.func36, Tryz.ntmps36
  go_wp2_with fail
  go_ret
  exact ⟨rfl, Below.refl _ _⟩
 ·have h1' : decide (n < 1) = false := by simpa using h1
  by_cases h2 : 1000 < n
  ·clear hn
   go_enter Tryz.func36, Tryz.ntmps36
   go_wp2_with fail
   go_ret
   exact ⟨rfl, Below.refl _ _⟩
  ·have h2' : decide (1000 < n) = false := by simpa using h2
   have h3 : 100000 < m.now + n := by omega
   clear hn
   go_enter Tryz.func36, Tryz.ntmps36
   go_wp2_with fail
   go_ret
   exact ⟨rfl, Below.refl _ _⟩
set_option maxRecDepth 20000 in
set_option maxHeartbeats 4000000 in
theorem mtick_good {w : World} {i : Ids} {c : Cf} {ep : Int} {m : MS} (h : zbb w i c ep m) (hc : c.ok) (n : Int) (hn : 1 <= n /\ n <= 1000) (hnow : 0 <= m.now /\ m.now + n <= 100000) (hI : BInv 1000000 100000 m.TL m.QL) (hL : ∀ p ∈ m.L, inR c p.1) (hlen : m.L.length <= 2000) (htl : ∀ TL' QL', Exps (m.now + n) m.TL m.QL TL' QL' -> TL'.length <= 50000) :
  Calls Tryz.prog 36 #[.pointer (some ⟨i.x, 0, none⟩), int i64 n] w fun e w' => e = .returned (int i64 0) /\ ∃ TL1 QL1 TL', zbb w' i c ep { m with now := m.now + n, TL := TL', QL := QL1 } /\ zan (zcz i) w w' /\ Exps (m.now + n) m.TL m.QL TL1 QL1 /\ (∀ p ∈ QL1, m.now + n < p.2.til) /\ zev c { m with now := m.now + n, TL := TL1, QL := QL1 } TL' := by
 obtain ⟨-, -, -, -, -, -, -, -, c8, -, -⟩ := h.cells
 have hxl := h.lt
 obtain ⟨hn1, hn2⟩ := hn
 obtain ⟨hw1, hw2⟩ := hnow
 have h1' : decide (n < 1) = false := by simp; omega
 have h2' : decide (1000 < n) = false := by simp; omega
 have h3' : decide (100000 < m.now + n) = false := by simp; omega
 have hfr := fun j => zaz h.head j
 have hS := h.setNow (m.now + n)
 have hkS : zan (fun k => k = i.x) w (w.setCell ⟨i.x, 8, none⟩ (int i64 (m.now + n))) := zag (zan.refl _ _) rfl
 obtain ⟨-, -, -, -, -, -, -, -, d8, -, d10⟩ := hS.cells
 have hsl := hS.lt
 dsimp only at d8
 have HE := zab (expire_any ((hS.later (Below.refl _ _).drew).board) (m.now + n) ⟨by omega, hw2⟩ hI)
 have HS := zab hS
 have HKS := zab hkS
 clear h hS hkS
 go_enter Tryz.func36, Tryz.ntmps36
 go_wp2_with fail
 generalize (w.setCell ⟨i.x, 8, none⟩ (int i64 (m.now + n))) = X at *
 refine zes 8 (by kernel_rfl) (by kernel_rfl) ?_
 simp only [List.take_succ_cons, List.take_zero, List.drop_succ_cons, List.drop_zero]
 repeat still_step
 refine wpStill_nil ?_
 go_wp2_with (first | (go_at_call 76; refine (ud HE).mono ?_; rintro e V1 ⟨rfl, TL1, QL1, hB1, hK1, hE1, hq1⟩; have HB1 := zab hB1; have HK1 := zab hK1; have HE1 := zab hE1; have HQ1 := zab hq1; clear hB1 hK1 hE1 hq1))
 have hkb : zan (bfoot i.b i.tb i.qb) X V1 := ((zan.refl (bfoot i.b i.tb i.qb) X).drew).trans ((ud HK1).mono (fun k _ e => .inr e)) (fun _ _ e => e)
 have hM3 := (ud HS).putBoard (ud HB1) hkb
 have HKB := zab hkb
 have HPO := zab (post_any hM3 hc hL hlen ⟨by show 0 <= m.now + n; omega, hw2⟩ (htl _ _ (ud HE1)))
 clear hkb hM3 d8 d10
 go_wp2_with (first | (go_at_call 44; refine (ud HPO).mono ?_; rintro e V3 ⟨rfl, TL', hM4, hK4, hP4⟩; have HV3 := zab hM4; have HK3 := zab hK4; have HP3 := zab hP4; clear hM4 hK4 hP4))
 go_ret
 have k1 : zan (zcz i) w X := (ud HKS).mono (fun q _ e => .inl e)
 have k2 := k1.trans ((ud HKB).mono (fun q _ e => .inr (.inr e))) (fun _ _ e => e)
 have k3 := k2.trans ((ud HK3).mono (fun q _ e => .inr (.inr (.inr (.inl e))))) (fun _ _ e => e)
 exact ⟨rfl, TL1, QL1, TL', ud HV3, k3, ud HE1, ud HQ1, ud HP3⟩
end Go.Proofs.YtpbimdkclnekeaaGreat

namespace Go.Proofs.YtpbimdkclnekeaaGreat
open Go.RowKit Go.Maps Go.Shelf
set_option linter.unusedVariables false
theorem byKeyV_lt (x y : Tsk) : byKeyV x y < 0 ↔ (x.kd < y.kd \/ x.kd = y.kd /\ (x.s.t < y.s.t \/ x.s.t = y.s.t /\ (x.s.ser < y.s.ser \/ x.s.ser = y.s.ser /\ x.s.win < y.s.win))) := by
 unfold byKeyV
 simp only [orL, cmpJ]
 repeat' split
 all_goals omega
inductive Act1 (c : Cf) (ep : Int) : MS -> List Nm -> MS -> List Nm -> Prop
 | same (m : MS) (ns : List Nm) : Act1 c ep m ns m ns
 | added (m : MS) (ns : List Nm) (x : Nm) (hs : 0 <= x.ser /\ x.ser < 4) (hx : 0 <= x.tm /\ x.tm <= m.now) (hl : m.now - c.la <= x.tm) (hv : -2147483648 <= x.val /\ x.val <= 2147483647) (hu : zby m.L + (1 + 2 * zeq c m.L x c.n) <= c.qu) : Act1 c ep m ns { m with L := addL c m.L x } (ns ++ [x])
 | ticked (m : MS) (ns : List Nm) (n : Int) (TL1 TL' : List (Jk × Tsk)) (QL1 : List (Tok × Lse)) (hn : 1 <= n) (hnow : m.now + n <= 100000) (he : Exps (m.now + n) m.TL m.QL TL1 QL1) (hq : ∀ p ∈ QL1, m.now + n < p.2.til) (hp : zev c { m with now := m.now + n, TL := TL1, QL := QL1 } TL') : Act1 c ep m ns { m with now := m.now + n, TL := TL', QL := QL1 } ns
 | taken (m : MS) (ns : List Nm) (p : Jk × Tsk) (slot : Int) (hp : p ∈ m.TL) (hf : freeB m.QL m.now p.2 = true) : Act1 c ep m ns { m with num := m.num + 1, QL := zer m.QL ⟨ep, m.num + 1⟩ ⟨p.2.kd, p.2.s, slot, m.now + c.le⟩ } ns
 | failed (m : MS) (ns : List Nm) (t : Tok) (g : Lse) (x : Tsk) (hg : zbm m.QL t = some g) (hx : zbm m.TL g.job = some x) : Act1 c ep m ns { m with TL := zer m.TL g.job (x.failed m.now), QL := zcj m.QL t } ns
 | rolled (m : MS) (ns : List Nm) (t : Tok) (g : Lse) (s : Sg) (since tries rest : Int) (k : Nat) (TL' : List (Jk × Tsk)) (hg : zbm m.QL t = some g) (hx : zbm m.TL g.job = some ⟨true, s, since, tries, rest⟩) (hk : s.t = k) (hp : zev c { m with L := putL m.L s ⟨3, zdn (standL c m.L s.ser s.win k)⟩, Gl := m.Gl, TL := zcj m.TL g.job, QL := zcj m.QL t } TL') : Act1 c ep m ns { m with L := putL m.L s ⟨3, zdn (standL c m.L s.ser s.win k)⟩, Gl := m.Gl, TL := TL', QL := zcj m.QL t } ns
 | reclaimed (m : MS) (ns : List Nm) (t : Tok) (g : Lse) (s : Sg) (since tries rest : Int) (TL' : List (Jk × Tsk)) (hg : zbm m.QL t = some g) (hx : zbm m.TL g.job = some ⟨false, s, since, tries, rest⟩) (hp : zev c { m with L := zcj m.L s, Gl := zer m.Gl s (), TL := zcj m.TL g.job, QL := zcj m.QL t } TL') : Act1 c ep m ns { m with L := zcj m.L s, Gl := zer m.Gl s (), TL := TL', QL := zcj m.QL t } ns
theorem free_parts {QL : List (Tok × Lse)} {now : Int} {x : Tsk} (h : freeB QL now x = true) : x.rest <= now /\ leasedB QL x.key = false := by
 unfold freeB at h
 simp only [Bool.and_eq_true, Bool.not_eq_true', decide_eq_true_eq] at h
 exact h
theorem Act1.ok {c : Cf} {ep : Int} {m m' : MS} {ns ns' : List Nm} (hc : c.ok) (hf : c.fits) (h : Act1 c ep m ns m' ns') (hs : SOk c ep m ns.length) : SOk c ep m' ns'.length := by
 cases h with
 | same => exact hs
 | added x h1 h2 h3 h4 h5 => have := (hs.ingest hc hf h1 h2 h3 h4 h5).1; simpa using this
 | ticked n TL1 TL' QL1 hn hnow he hq hp => exact (hs.tick hc hf hn hnow he hq hp).1
 | taken p slot hp hfr => obtain ⟨h1, h2⟩ := free_parts hfr; exact hs.take hc hp h1 h2 slot
 | failed t g x hg hx => exact hs.fail hg hx
 | rolled t g s since tries rest k TL' hg hx hk hp => exact (hs.roll hc hf hg hx _ hp).1
 | reclaimed t g s since tries rest TL' hg hx hp => exact (hs.reclaim hc hf hg hx hp).1
theorem Act1.nums {c : Cf} {ep : Int} {m m' : MS} {ns ns' : List Nm} (h : Act1 c ep m ns m' ns') : ns'.length <= ns.length + 1 := by
 cases h <;> simp
theorem SOk.tsk {c : Cf} {ep : Int} {m : MS} {nn : Nat} (h : SOk c ep m nn) : ∀ p ∈ m.TL, TskIn c m.now p.2 := fun p hp => by
 have h1 := h.ok.tasks p hp
 have h2 := h.ok.mem_inR h1.mem
 exact ⟨h2.2.1, h2.2.2.1, h2.2.2.2, h1.since⟩
theorem SOk.qn {c : Cf} {ep : Int} {m : MS} {nn : Nat} (h : SOk c ep m nn) : ∀ q ∈ m.QL, q.1.num <= m.num := fun q hq => (h.ok.leas q hq).num.2
theorem SOk.epoch {c : Cf} {ep : Int} {m : MS} {nn : Nat} (h : SOk c ep m nn) {t : Tok} (ht : t ∉ tokL ep m.num.toNat) : zbm m.QL t = none := by
 rw [zcb]
 intro hk
 obtain ⟨q, hq, rfl⟩ := List.mem_map.1 (show t ∈ m.QL.map (·.1) from hk)
 have h1 := (h.ok.leas q hq).ep
 have h2 := (h.ok.leas q hq).num
 refine ht (List.mem_map.2 ⟨(q.1.num - 1).toNat, by simp; omega, ?_⟩)
 obtain ⟨⟨e, n⟩, g⟩ := q
 dsimp only at h1 h2 ⊢
 rw [h1]
 congr 1
 omega
def jobO (QL : List (Tok × Lse)) (x : Tsk) : Tok × Int × Int := match QL.find? (fun p => decide (p.2.job = x.key)) with | some p => (p.1, p.2.slot, p.2.til) | none => (⟨0, 0⟩, -1, 0)
theorem nodup_map_eq {α β : Type} {f : α -> β} : ∀ {l : List α}, (l.map f).Nodup -> ∀ x ∈ l, ∀ y ∈ l, f x = f y -> x = y
 | [], _, x, hx, _, _, _ => by cases hx
 | a :: l, h, x, hx, y, hy, e => by
  rw [List.map_cons, List.nodup_cons] at h
  rcases List.mem_cons.1 hx with rfl | hx'
  ·rcases List.mem_cons.1 hy with rfl | hy'
   ·rfl
   ·exact absurd (List.mem_map.2 ⟨y, hy', e.symm⟩) h.1
  ·rcases List.mem_cons.1 hy with rfl | hy'
   ·exact absurd (List.mem_map.2 ⟨x, hx', e⟩) h.1
   ·exact nodup_map_eq h.2 x hx' y hy' e
end Go.Proofs.YtpbimdkclnekeaaGreat
