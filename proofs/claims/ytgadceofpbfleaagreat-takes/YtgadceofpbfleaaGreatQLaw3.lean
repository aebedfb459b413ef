import Derived.Test.YtgadceofpbfleaaGreatQLaw2

/- Walks: the statement's views; asked, for Stats. -/
namespace Go.Proofs.YtgadceofpbfleaaGreat
open Go.RowKit Go.Maps Go.Shelf
set_option linter.unusedVariables false

set_option maxRecDepth 8000 in
set_option maxHeartbeats 4000000 in
theorem views_any {w : World} {po x d r mb mcap : Nat} {c : Cf} {ct : Value} {ep : Int} (hp : w.heap[po]? = some (postObj x d c ct (.slice (some ⟨mb, 0, none⟩) 1 mcap) ep)) (hmb : w.cell? ⟨mb, 0, none⟩ = some (.pointer (some ⟨r, 0, none⟩))) (hmbl : mb < w.heap.size) :
    Calls Tryz.prog 36 #[.pointer (some ⟨po, 0, none⟩)] w fun e w' => ∃ g cap, e = .returned (.slice (some ⟨g, 0, none⟩) 1 cap) ∧ w'.ownsRow 0 56 1 (.slice (some ⟨g, 0, none⟩) 1 cap) 1 [.pointer (some ⟨r, 0, none⟩)] ∧ Below w.heap.size w w' := by
  have hpl := lt_of_heap hp
  have p9 : w.cell? ⟨po, 9, none⟩ = some (.slice (some ⟨mb, 0, none⟩) 1 mcap) := by have hq := hp; unfold postObj at hq; rw [rcell hq]; rfl
  have hm0 : 0 < 1 := by decide
  have hm1 : 0 + 1 ≤ maxLen := by simp [maxLen]
  have hm2 : (0 + 1) * 8 ≤ 140737488355328 := by omega
  have HP := hide hp
  clear hp
  go_enter Tryz.func36, Tryz.ntmps36
  go_wp2_with fail
  refine wp_loop_rounds 2 ?_
  rw [rounds_succ]
  go_wp2_with (first | (at_builtin; refine wpList_append_keep rfl _ _ 51 rfl 0 56 _ 1 8 Tryz.underlying51 Tryz.infoRefP rfl (by decide) (.slice none 0 0) 0 [] rfl (World.ownsRow_nil _ _ _ _) ⟨w.heap.size, 0, none⟩ 1 1 [.pointer (some ⟨r, 0, none⟩)] rfl rfl (World.news_of_block (cs := #[.pointer (some ⟨r, 0, none⟩)]) (rlast w _)) (by intro u hu; simp at hu; subst hu; rfl) hm0 hm1 hm2 (Nat.zero_le _) ?_; intro g gcap W4 hown4 hold4 hgrow4 hat4 hlt4; have HO4 := hide hown4; have HG4 := hide hgrow4; clear hown4 hold4 hgrow4 hat4) | go_in)
  have hb0 : Below w.heap.size w (w.alloc (.cells #[.pointer (some ⟨r, 0, none⟩)] 56)) := (Below.refl _ _).alloc (Nat.le_refl _) _
  have hb4 : Below w.heap.size w W4 := hb0.grown (show (w.alloc (.cells #[.pointer (some ⟨r, 0, none⟩)] 56)).grownBy W4 none from unhide HG4) hb0.size (fun k e => by cases e)
  have hp4 := (hb4.block po hpl).trans (unhide HP)
  have k9 : W4.cell? ⟨po, 9, none⟩ = some (.slice (some ⟨mb, 0, none⟩) 1 mcap) := by have hq := hp4; unfold postObj at hq; rw [rcell hq]; rfl
  have k10 : W4.cell? ⟨po, 10, none⟩ = some (.slice none 0 0) := by have hq := hp4; unfold postObj at hq; rw [rcell hq]; rfl
  have HB4 := hide hb4
  clear hb0 hb4 hp4 p9
  refine wp_loop_rounds 1 ?_
  rw [rounds_succ]
  go_wp2_with fail
  rw [rounds_succ]
  go_wp2_with fail
  go_ret
  exact ⟨g, gcap, rfl, unhide HO4, unhide HB4⟩
end Go.Proofs.YtgadceofpbfleaaGreat

/- Walks: the statement's asked, for Stats (written by wip/mklaw4.py). -/
namespace Go.Proofs.YtgadceofpbfleaaGreat
open Go.RowKit Go.Maps Go.Shelf
set_option linter.unusedVariables false

/-- a post whose list of mills is a new one of the same. -/
theorem post_may {w W : World} {po x d r : Nat} {c : Cf} {ct tv mv fs : Value} {ep now : Int} {s lb gb : Nat} {L : LV} {B0 B1 : Nat} {m : RM} {rt nv pv gv kv : Value} {g cap : Nat} (h : PostW w po x d r c ct tv mv fs ep now s lb gb L B0 B1 m rt nv pv gv kv) (hb : Below w.heap.size w W) (hrow : W.ownsRow 0 56 1 (.slice (some ⟨g, 0, none⟩) 1 cap) 1 [.pointer (some ⟨r, 0, none⟩)]) :
    PostW (W.setCell ⟨po, 9, none⟩ (.slice (some ⟨g, 0, none⟩) 1 cap)) po x d r c ct tv (.slice (some ⟨g, 0, none⟩) 1 cap) fs ep now s lb gb L B0 B1 m rt nv pv gv kv ∧ Kept (fun k => k = po) w (W.setCell ⟨po, 9, none⟩ (.slice (some ⟨g, 0, none⟩) 1 cap)) := by
  have hpl := lt_of_heap h.head
  have hp4 := (hb.block po hpl).trans h.head
  have hs4 : (W.setCell ⟨po, 9, none⟩ (.slice (some ⟨g, 0, none⟩) 1 cap)).heap[po]? = some (postObj x d c ct (.slice (some ⟨g, 0, none⟩) 1 cap) ep) := by
    have hq := hp4
    unfold postObj at hq ⊢
    exact rset (i := 9) hq _
  have hkp : Kept (fun k => k = po) W (W.setCell ⟨po, 9, none⟩ (.slice (some ⟨g, 0, none⟩) 1 cap)) := kept_set (Kept.refl _ _) rfl
  have hm4 := h.mill.later hb
  have hd4 := h.disk.later hb
  have hr4 := h.ref.later hb
  have hnt := not_po hp4
  refine ⟨⟨hs4, hm4.kept hkp (fun k hk e => ?_), hd4.kept hkp (fun k hk e => ?_), owns_kept hrow hkp (fun k hk e => ?_), hr4.kept hkp (fun k hk e => ?_), h.sim, h.epo⟩, (Kept.of_below hb).trans hkp (fun _ _ h => h)⟩
  · subst e
    rcases hk with rfl | rfl | hk | rfl | rfl
    · exact hnt _ _ (by decide) hm4.head rfl
    · exact hnt _ _ (by decide) hm4.set.head rfl
    · obtain ⟨cur, hc⟩ := owns_type hm4.set.trow hk; exact hnt _ _ (by decide) hc rfl
    · obtain ⟨es, cl, hb, _⟩ := hm4.set.live; have hh := hp4; unfold postObj at hh; rw [hb] at hh; cases hh
    · have hh := hp4; unfold postObj at hh; rw [hm4.set.gone] at hh; cases hh
  · subst e
    rcases hk with rfl | hk
    · exact hnt _ _ (by decide) hd4.head rfl
    · obtain ⟨cur, hc⟩ := owns_type hd4.row hk; exact hnt _ _ (by decide) hc rfl
  · subst e
    obtain ⟨cur, hc⟩ := owns_type hrow hk; exact hnt _ _ (by decide) hc rfl
  · subst e
    rcases hk with rfl | hk | hk | hk | hk | hk
    · exact hnt _ _ (by decide) hr4.head rfl
    · obtain ⟨cur, hc⟩ := owns_type hr4.trow hk; exact hnt _ _ (by decide) hc rfl
    · obtain ⟨cur, hc⟩ := owns_type hr4.nrow hk; exact hnt _ _ (by decide) hc rfl
    · obtain ⟨cur, hc⟩ := owns_type hr4.prow hk; exact hnt _ _ (by decide) hc rfl
    · obtain ⟨cur, hc⟩ := owns_type hr4.grow hk; exact hnt _ _ (by decide) hc rfl
    · obtain ⟨cur, hc⟩ := owns_type hr4.krow hk; exact hnt _ _ (by decide) hc rfl

set_option maxRecDepth 8000 in
set_option maxHeartbeats 8000000 in
theorem asked_stats {w : World} {wb po x d r : Nat} {c : Cf} {ct tv mv fs : Value} {ep now : Int} {s lb gb : Nat} {L : LV} {B0 B1 : Nat} {m : RM} {rt nv pv gv kv : Value} (h : PostW w po x d r c ct tv mv fs ep now s lb gb L B0 B1 m rt nv pv gv kv) (o : Ops) :
    Calls Tryz.prog 20 #[.pointer (some ⟨wb, 0, none⟩), .pointer (some ⟨po, 0, none⟩), .agg #[.int .i64 5, .int .i64 o.on, .int .i64 o.a, .int .i64 o.b, .int .i64 o.c, .int .i32 o.v, .int .i64 o.te, .int .i64 o.tn, .int .i64 o.fs, .int .i64 o.fle, .int .i64 o.fla, .int .i64 o.fwi, .int .i64 o.fke, .int .i64 o.fqu, .slice o.fa o.fn o.fcap]] w fun e w' => e = .returned (.bool true) ∧ ∃ mv', PostW w' po x d r c ct tv mv' fs ep now s lb gb L B0 B1 m rt nv pv gv kv ∧ Kept (fun k => k = po) w w' := by
  have hpl := lt_of_heap h.head
  obtain ⟨y0, y1, y2, hbw, yz⟩ := box3p w (.cells #[.int .i64 5, .int .i64 o.on, .int .i64 o.a, .int .i64 o.b, .int .i64 o.c, .int .i32 o.v, .int .i64 o.te, .int .i64 o.tn, .int .i64 o.fs, .int .i64 o.fle, .int .i64 o.fla, .int .i64 o.fwi, .int .i64 o.fke, .int .i64 o.fqu, .slice o.fa o.fn o.fcap] 39) (.cells #[.int .i64 0, .int .i64 0, .int .i32 0, .int .i32 0] 91) (.cells #[.int .i64 0, .int .i64 0, .int .i64 0, .int .i64 0, .int .i64 0, .int .i64 0, .int .i64 0, .int .i64 0] 77)
  have hub := h.sim.ubound
  have HPS := hide (pstats_any (h.mill.later hbw) h.sim.ok ⟨hub.1, by omega⟩ (h.sim.counts 1) (h.sim.counts 2) (h.sim.counts 3))
  obtain ⟨hsc, hus, hti⟩ := h.sim.stats
  have HRS := fun (V : World) (hb : Below w.heap.size w V) => hide (stats_any (h.ref.later hb) (by rw [h.sim.hc]; exact h.sim.ok) (by have := h.sim.len; omega) (by rw [h.sim.gone]; simp) (by rw [h.sim.pub]; simp) h.sim.nums (by rw [hus]; omega))
  rw [hsc, hus, hti, h.epo, h.sim.hnow] at HRS
  dsimp only at HRS
  generalize usedL L = U at *
  generalize countL L 1 = A1 at *
  generalize countL L 2 = A2 at *
  generalize countL L 3 = A3 at *
  generalize tightN U c.qu = T at *
  obtain ⟨mb, mcap, hmv, _, hmbl⟩ := h.may.form (by omega)
  have HMB : Hid (w.cell? ⟨mb, 0, none⟩ = some (.pointer (some ⟨r, 0, none⟩))) := by
    have := h.may
    rw [hmv] at this
    show _ = _
    rw [this.cellAt 0 (by omega)]; rfl
  have p0 : (((w.alloc (.cells #[.int .i64 5, .int .i64 o.on, .int .i64 o.a, .int .i64 o.b, .int .i64 o.c, .int .i32 o.v, .int .i64 o.te, .int .i64 o.tn, .int .i64 o.fs, .int .i64 o.fle, .int .i64 o.fla, .int .i64 o.fwi, .int .i64 o.fke, .int .i64 o.fqu, .slice o.fa o.fn o.fcap] 39)).alloc (.cells #[.int .i64 0, .int .i64 0, .int .i32 0, .int .i32 0] 91)).alloc (.cells #[.int .i64 0, .int .i64 0, .int .i64 0, .int .i64 0, .int .i64 0, .int .i64 0, .int .i64 0, .int .i64 0] 77)).cell? ⟨po, 0, none⟩ = some (.pointer (some ⟨x, 0, none⟩)) := by have hq := (hbw.block po hpl).trans h.head; unfold postObj at hq; rw [rcell hq]; rfl
  have H := hide h
  go_enter Tryz.func20, Tryz.ntmps20
  have Y0 := hide y0
  have Y2 := hide y2
  have HBW := hide hbw
  have YZ := hide yz
  clear y0 y1 y2 hbw yz h hub hsc hus hti
  go_wp2_with fail
  generalize (((w.alloc (.cells #[.int .i64 5, .int .i64 o.on, .int .i64 o.a, .int .i64 o.b, .int .i64 o.c, .int .i32 o.v, .int .i64 o.te, .int .i64 o.tn, .int .i64 o.fs, .int .i64 o.fle, .int .i64 o.fla, .int .i64 o.fwi, .int .i64 o.fke, .int .i64 o.fqu, .slice o.fa o.fn o.fcap] 39)).alloc (.cells #[.int .i64 0, .int .i64 0, .int .i32 0, .int .i32 0] 91)).alloc (.cells #[.int .i64 0, .int .i64 0, .int .i64 0, .int .i64 0, .int .i64 0, .int .i64 0, .int .i64 0, .int .i64 0] 77)) = X at *
  refine (unhide HPS).mono ?_
  rintro e V ⟨rfl, hbV⟩
  have hXz : X.heap.size = w.heap.size + 3 := unhide YZ
  have hzV := (hbV.block (w.heap.size + 2) (by omega)).trans (unhide Y2)
  have hoV := (hbV.block w.heap.size (by omega)).trans (unhide Y0)
  have z0 : V.cell? ⟨w.heap.size + 2, 0, none⟩ = some (.int .i64 0) := by rw [rcell hzV]; rfl
  have z1 : V.cell? ⟨w.heap.size + 2, 1, none⟩ = some (.int .i64 0) := by rw [rcell hzV]; rfl
  have z2 : V.cell? ⟨w.heap.size + 2, 2, none⟩ = some (.int .i64 0) := by rw [rcell hzV]; rfl
  have z3 : V.cell? ⟨w.heap.size + 2, 3, none⟩ = some (.int .i64 0) := by rw [rcell hzV]; rfl
  have z4 : V.cell? ⟨w.heap.size + 2, 4, none⟩ = some (.int .i64 0) := by rw [rcell hzV]; rfl
  have z5 : V.cell? ⟨w.heap.size + 2, 5, none⟩ = some (.int .i64 0) := by rw [rcell hzV]; rfl
  have z6 : V.cell? ⟨w.heap.size + 2, 6, none⟩ = some (.int .i64 0) := by rw [rcell hzV]; rfl
  have z7 : V.cell? ⟨w.heap.size + 2, 7, none⟩ = some (.int .i64 0) := by rw [rcell hzV]; rfl
  have zf := fun j => rfree hzV j
  have v0 : V.cell? ⟨w.heap.size, 0, none⟩ = some (.int .i64 5) := by rw [rcell hoV]; rfl
  have hs8 := set8 hzV (.int .i64 now) (.int .i64 U) (.int .i64 T) (.int .i64 ep) (.int .i64 A1) (.int .i64 A2) (.int .i64 A3) (.int .i64 0)
  have hwV := (unhide HBW).trans (hbV.mono (unhide HBW).size)
  have hk8 : Kept (fun k => k = w.heap.size + 2) V ((((((((V.setCell ⟨w.heap.size + 2, 0, none⟩ (.int .i64 now)).setCell ⟨w.heap.size + 2, 1, none⟩ (.int .i64 U)).setCell ⟨w.heap.size + 2, 2, none⟩ (.int .i64 T)).setCell ⟨w.heap.size + 2, 3, none⟩ (.int .i64 ep)).setCell ⟨w.heap.size + 2, 4, none⟩ (.int .i64 A1)).setCell ⟨w.heap.size + 2, 5, none⟩ (.int .i64 A2)).setCell ⟨w.heap.size + 2, 6, none⟩ (.int .i64 A3)).setCell ⟨w.heap.size + 2, 7, none⟩ (.int .i64 0)) := kept_set (i := 7) (kept_set (i := 6) (kept_set (i := 5) (kept_set (i := 4) (kept_set (i := 3) (kept_set (i := 2) (kept_set (i := 1) (kept_set (i := 0) (Kept.refl _ _) rfl) rfl) rfl) rfl) rfl) rfl) rfl) rfl
  have hVl : w.heap.size + 2 < V.heap.size := lt_of_heap hzV
  have hqV : w.heap.size < V.heap.size := by omega
  have HO8 := hide (hk8.heap hoV (by omega))
  have hw8 : Below w.heap.size w ((((((((V.setCell ⟨w.heap.size + 2, 0, none⟩ (.int .i64 now)).setCell ⟨w.heap.size + 2, 1, none⟩ (.int .i64 U)).setCell ⟨w.heap.size + 2, 2, none⟩ (.int .i64 T)).setCell ⟨w.heap.size + 2, 3, none⟩ (.int .i64 ep)).setCell ⟨w.heap.size + 2, 4, none⟩ (.int .i64 A1)).setCell ⟨w.heap.size + 2, 5, none⟩ (.int .i64 A2)).setCell ⟨w.heap.size + 2, 6, none⟩ (.int .i64 A3)).setCell ⟨w.heap.size + 2, 7, none⟩ (.int .i64 0)) := hwV.trans (hk8.below (Nat.le_of_lt hqV) (fun k hk => by omega))
  have HVW := hide (views_any (w := ((((((((V.setCell ⟨w.heap.size + 2, 0, none⟩ (.int .i64 now)).setCell ⟨w.heap.size + 2, 1, none⟩ (.int .i64 U)).setCell ⟨w.heap.size + 2, 2, none⟩ (.int .i64 T)).setCell ⟨w.heap.size + 2, 3, none⟩ (.int .i64 ep)).setCell ⟨w.heap.size + 2, 4, none⟩ (.int .i64 A1)).setCell ⟨w.heap.size + 2, 5, none⟩ (.int .i64 A2)).setCell ⟨w.heap.size + 2, 6, none⟩ (.int .i64 A3)).setCell ⟨w.heap.size + 2, 7, none⟩ (.int .i64 0))) (by rw [← hmv]; exact (hw8.block po hpl).trans (unhide H).head) ((hw8.cell (p := ⟨mb, 0, none⟩) hmbl).trans (unhide HMB)) (Nat.lt_of_lt_of_le hmbl hw8.size))
  have HS8 := hide hs8
  have HW8 := hide hw8
  have hne0 : ¬ w.heap.size = w.heap.size + 2 := by omega
  clear hbV hzV hoV hs8 hk8 hw8 hwV HPS p0
  go_wp2_with fail
  generalize ((((((((V.setCell ⟨w.heap.size + 2, 0, none⟩ (.int .i64 now)).setCell ⟨w.heap.size + 2, 1, none⟩ (.int .i64 U)).setCell ⟨w.heap.size + 2, 2, none⟩ (.int .i64 T)).setCell ⟨w.heap.size + 2, 3, none⟩ (.int .i64 ep)).setCell ⟨w.heap.size + 2, 4, none⟩ (.int .i64 A1)).setCell ⟨w.heap.size + 2, 5, none⟩ (.int .i64 A2)).setCell ⟨w.heap.size + 2, 6, none⟩ (.int .i64 A3)).setCell ⟨w.heap.size + 2, 7, none⟩ (.int .i64 0)) = X8 at *
  refine (unhide HVW).mono ?_
  rintro e W1 ⟨g1, cap1, rfl, hrow1, hb1⟩
  have ho1 := (hb1.block w.heap.size (lt_of_heap (unhide HO8))).trans (unhide HO8)
  have hw1 := (unhide HW8).trans (hb1.mono (unhide HW8).size)
  have q0 : W1.cell? ⟨w.heap.size, 0, none⟩ = some (.int .i64 5) := by rw [rcell ho1]; rfl
  have g0 : W1.cell? ⟨g1, 0, none⟩ = some (.pointer (some ⟨r, 0, none⟩)) := by rw [hrow1.cellAt 0 (by omega)]; rfl
  have HR1 := HRS W1 hw1
  have HS1 := hide ((hb1.block (w.heap.size + 2) (lt_of_heap (unhide HS8))).trans (unhide HS8))
  have HO1 := hide ho1
  have HW1 := hide hw1
  have HROW := hide hrow1
  clear ho1 hw1 hrow1 hb1 z0 z1 z2 z3 z4 z5 z6 z7 zf v0 HVW HRS
  go_wp2_with fail
  refine wp_loop_rounds 2 ?_
  rw [rounds_succ]
  go_wp2_with fail
  refine (unhide HR1).mono ?_
  rintro e U1 ⟨rfl, hb2⟩
  have hs1 := (hb2.block (w.heap.size + 2) (lt_of_heap (unhide HS1))).trans (unhide HS1)
  have s0 : U1.cell? ⟨w.heap.size + 2, 0, none⟩ = some (.int .i64 now) := by rw [rcell hs1]; rfl
  have s1 : U1.cell? ⟨w.heap.size + 2, 1, none⟩ = some (.int .i64 U) := by rw [rcell hs1]; rfl
  have s2 : U1.cell? ⟨w.heap.size + 2, 2, none⟩ = some (.int .i64 T) := by rw [rcell hs1]; rfl
  have s3 : U1.cell? ⟨w.heap.size + 2, 3, none⟩ = some (.int .i64 ep) := by rw [rcell hs1]; rfl
  have s4 : U1.cell? ⟨w.heap.size + 2, 4, none⟩ = some (.int .i64 A1) := by rw [rcell hs1]; rfl
  have s5 : U1.cell? ⟨w.heap.size + 2, 5, none⟩ = some (.int .i64 A2) := by rw [rcell hs1]; rfl
  have s6 : U1.cell? ⟨w.heap.size + 2, 6, none⟩ = some (.int .i64 A3) := by rw [rcell hs1]; rfl
  have s7 : U1.cell? ⟨w.heap.size + 2, 7, none⟩ = some (.int .i64 0) := by rw [rcell hs1]; rfl
  have hg1 : g1 < W1.heap.size := own_lt (unhide HROW) g1 rfl
  have g2 : U1.cell? ⟨g1, 0, none⟩ = some (.pointer (some ⟨r, 0, none⟩)) := (hb2.cell (p := ⟨g1, 0, none⟩) hg1).trans g0
  have hsl := lt_of_heap hs1
  have hg2 : g1 < U1.heap.size := Nat.lt_of_lt_of_le hg1 hb2.size
  have hm0 : 0 < 1 := by decide
  have hm1 : 0 + 1 ≤ maxLen := by simp [maxLen]
  have hm2 : (0 + 1) * 8 ≤ 140737488355328 := by omega
  have HB2 := hide hb2
  clear hs1 hb2 HR1
  go_wp2_with (first | (at_builtin; refine wpList_append_keep rfl _ _ 51 rfl 0 56 _ 1 8 Tryz.underlying51 Tryz.infoRefP rfl (by decide) (.slice none 0 0) 0 [] rfl (World.ownsRow_nil _ _ _ _) ⟨U1.heap.size + 1, 0, none⟩ 1 1 [.pointer (some ⟨r, 0, none⟩)] rfl rfl (World.news_of_block (cs := #[.pointer (some ⟨r, 0, none⟩)]) (heap_second U1 _ _)) (by intro u hu; simp at hu; subst hu; rfl) hm0 hm1 hm2 (Nat.zero_le _) ?_; intro g gcap W4 hown4 hold4 hgrow4 hat4 hlt4; have HO4 := hide hown4; have HG4 := hide hgrow4; clear hown4 hold4 hgrow4 hat4) | go_in)
  have hbU : Below U1.heap.size U1 ((U1.alloc (.cells #[.int .i64 now, .int .i64 U, .int .i64 T, .int .i64 ep, .int .i64 A1, .int .i64 A2, .int .i64 A3, .int .i64 0] 77)).alloc (.cells #[.pointer (some ⟨r, 0, none⟩)] 56)) := (box2 U1 _ _).2.2.1
  have hbUW : Below U1.heap.size U1 W4 := hbU.grown (show ((U1.alloc (.cells #[.int .i64 now, .int .i64 U, .int .i64 T, .int .i64 ep, .int .i64 A1, .int .i64 A2, .int .i64 A3, .int .i64 0] 77)).alloc (.cells #[.pointer (some ⟨r, 0, none⟩)] 56)).grownBy W4 none from unhide HG4) hbU.size (fun k e => by cases e)
  have hb1W : Below W1.heap.size W1 W4 := (unhide HB2).trans (hbUW.mono (unhide HB2).size)
  have hwW : Below w.heap.size w W4 := (unhide HW1).trans (hb1W.mono (unhide HW1).size)
  have hp4 := (hwW.block po hpl).trans (unhide H).head
  have ho4 := (hb1W.block w.heap.size (lt_of_heap (unhide HO1))).trans (unhide HO1)
  have k9 : W4.cell? ⟨po, 9, none⟩ = some mv := by have hq := hp4; unfold postObj at hq; rw [rcell hq]; rfl
  have k13 : W4.cell? ⟨po, 13, none⟩ = some (.bool false) := by have hq := hp4; unfold postObj at hq; rw [rcell hq]; rfl
  have kf4 : ∀ j, W4.frozen? ⟨po, j, none⟩ = false := fun j => by have hq := hp4; unfold postObj at hq; exact rfree hq j
  have k0 : W4.cell? ⟨w.heap.size, 0, none⟩ = some (.int .i64 5) := by rw [rcell ho4]; rfl
  have hpo4 := lt_of_heap hp4
  have HP4 := hide hp4
  have HWW := hide hwW
  clear hbU hbUW hb1W hwW hp4 ho4 s0 s1 s2 s3 s4 s5 s6 s7 g0 g2 q0
  rw [rounds_succ]
  go_wp2_with fail
  go_ret
  exact ⟨rfl, _, post_may (unhide H) (unhide HWW) (unhide HO4)⟩
end Go.Proofs.YtgadceofpbfleaaGreat

/- Walks: the statement's asked, for Query (written by wip/mklaw5.py). -/
namespace Go.Proofs.YtgadceofpbfleaaGreat
open Go.RowKit Go.Maps Go.Shelf
set_option linter.unusedVariables false

theorem set4_other {V : World} {z a i : Nat} (hn : ¬ a = z) (hl : a < V.heap.size) (x0 x1 x2 x3 : Value) : ((((V.setCell ⟨z, 0, none⟩ x0).setCell ⟨z, 1, none⟩ x1).setCell ⟨z, 2, none⟩ x2).setCell ⟨z, 3, none⟩ x3).cell? ⟨a, i, none⟩ = V.cell? ⟨a, i, none⟩ :=
  kept_cell (f := fun k => k = z) (kept_set (kept_set (kept_set (kept_set (Kept.refl _ _) rfl) rfl) rfl) rfl) hn hl

/-- behind the call: the answer's cell lies in block z. -/
structure AQ (w Y : World) (z : Nat) (op : Obj) (Q1 Q2 Q3 Q4 : Int) : Prop where
  below : Below w.heap.size w Y
  low : w.heap.size + 3 ≤ z
  cell : Y.heap[z]? = some (.cells #[.int .i64 Q1, .int .i64 Q2, .int .i32 Q3, .int .i32 Q4] 91)
  op : Y.heap[w.heap.size]? = some op
  res : Y.heap[w.heap.size + 1]? = some (.cells #[.int .i64 0, .int .i64 0, .int .i32 0, .int .i32 0] 91)
theorem aset4 {w : World} {g : Nat} {a b c d : Value} {t : TypeId} (h : w.heap[g]? = some (.cells #[a, b, c, d] t)) (x0 x1 x2 x3 : Value) : ((((w.setCell ⟨g, 0, none⟩ x0).setCell ⟨g, 1, none⟩ x1).setCell ⟨g, 2, none⟩ x2).setCell ⟨g, 3, none⟩ x3).heap[g]? = some (.cells #[x0, x1, x2, x3] t) := by
  have h0 : (w.setCell ⟨g, 0, none⟩ x0).heap[g]? = some (.cells #[x0, b, c, d] t) := rset (i := 0) h x0
  have h1 : ((w.setCell ⟨g, 0, none⟩ x0).setCell ⟨g, 1, none⟩ x1).heap[g]? = some (.cells #[x0, x1, c, d] t) := rset (i := 1) h0 x1
  have h2 : (((w.setCell ⟨g, 0, none⟩ x0).setCell ⟨g, 1, none⟩ x1).setCell ⟨g, 2, none⟩ x2).heap[g]? = some (.cells #[x0, x1, x2, d] t) := rset (i := 2) h1 x2
  exact rset (i := 3) h2 x3
theorem kept4 {w : World} {g : Nat} (x0 x1 x2 x3 : Value) : Kept (fun k => k = g) w ((((w.setCell ⟨g, 0, none⟩ x0).setCell ⟨g, 1, none⟩ x1).setCell ⟨g, 2, none⟩ x2).setCell ⟨g, 3, none⟩ x3) :=
  kept_set (kept_set (kept_set (kept_set (Kept.refl _ _) rfl) rfl) rfl) rfl
/-- the cell was made ahead of the call. -/
theorem AQ.ahead {w X V : World} {op : Obj} {Q1 Q2 Q3 Q4 : Int} (hb : Below w.heap.size w X) (hz : X.heap.size = w.heap.size + 3) (h0 : X.heap[w.heap.size]? = some op) (h1 : X.heap[w.heap.size + 1]? = some (.cells #[.int .i64 0, .int .i64 0, .int .i32 0, .int .i32 0] 91)) (hv : Below X.heap.size X V) (hc : V.heap[X.heap.size]? = some (.cells #[.int .i64 0, .int .i64 0, .int .i32 0, .int .i32 0] 91)) :
    AQ w ((((V.setCell ⟨X.heap.size, 0, none⟩ (.int .i64 Q1)).setCell ⟨X.heap.size, 1, none⟩ (.int .i64 Q2)).setCell ⟨X.heap.size, 2, none⟩ (.int .i32 Q3)).setCell ⟨X.heap.size, 3, none⟩ (.int .i32 Q4)) X.heap.size op Q1 Q2 Q3 Q4 := by
  have hk := kept4 (w := V) (g := X.heap.size) (.int .i64 Q1) (.int .i64 Q2) (.int .i32 Q3) (.int .i32 Q4)
  have hs := hv.size
  have hb2 : Below X.heap.size X _ := hv.trans (hk.below hs (fun k hk => by omega))
  exact ⟨hb.trans (hb2.mono (by omega)), by omega, aset4 hc _ _ _ _, (hb2.block w.heap.size (by omega)).trans h0, (hb2.block (w.heap.size + 1) (by omega)).trans h1⟩
/-- the cell was made behind the call. -/
theorem AQ.behind {w X V : World} {op : Obj} {Q1 Q2 Q3 Q4 : Int} (hb : Below w.heap.size w X) (hz : X.heap.size = w.heap.size + 3) (h0 : X.heap[w.heap.size]? = some op) (h1 : X.heap[w.heap.size + 1]? = some (.cells #[.int .i64 0, .int .i64 0, .int .i32 0, .int .i32 0] 91)) (hv : Below X.heap.size X V) :
    AQ w (V.alloc (.cells #[.int .i64 Q1, .int .i64 Q2, .int .i32 Q3, .int .i32 Q4] 91)) V.heap.size op Q1 Q2 Q3 Q4 := by
  have hs := hv.size
  have hb2 := hv.alloc hs (.cells #[.int .i64 Q1, .int .i64 Q2, .int .i32 Q3, .int .i32 Q4] 91)
  exact ⟨hb.trans (hb2.mono (by omega)), by omega, rlast V _, (hb2.block w.heap.size (by omega)).trans h0, (hb2.block (w.heap.size + 1) (by omega)).trans h1⟩

structure AR (w Y : World) (z : Nat) (Q1 Q2 Q3 Q4 : Int) : Prop where
  below : Below w.heap.size w Y
  cell : Y.heap[z]? = some (.cells #[.int .i64 Q1, .int .i64 Q2, .int .i32 Q3, .int .i32 Q4] 91)
theorem AR.ahead {X V : World} {Q1 Q2 Q3 Q4 : Int} (hv : Below X.heap.size X V) (hc : V.heap[X.heap.size]? = some (.cells #[.int .i64 0, .int .i64 0, .int .i32 0, .int .i32 0] 91)) :
    AR X ((((V.setCell ⟨X.heap.size, 0, none⟩ (.int .i64 Q1)).setCell ⟨X.heap.size, 1, none⟩ (.int .i64 Q2)).setCell ⟨X.heap.size, 2, none⟩ (.int .i32 Q3)).setCell ⟨X.heap.size, 3, none⟩ (.int .i32 Q4)) X.heap.size Q1 Q2 Q3 Q4 := by
  have hk := kept4 (w := V) (g := X.heap.size) (.int .i64 Q1) (.int .i64 Q2) (.int .i32 Q3) (.int .i32 Q4)
  exact ⟨hv.trans (hk.below hv.size (fun k hk => by omega)), aset4 hc _ _ _ _⟩
theorem AR.behind {X V : World} {Q1 Q2 Q3 Q4 : Int} (hv : Below X.heap.size X V) :
    AR X (V.alloc (.cells #[.int .i64 Q1, .int .i64 Q2, .int .i32 Q3, .int .i32 Q4] 91)) V.heap.size Q1 Q2 Q3 Q4 := ⟨hv.alloc hv.size _, rlast V _⟩

set_option maxRecDepth 8000 in
set_option maxHeartbeats 8000000 in
theorem asked_query {w : World} {wb po x d r : Nat} {c : Cf} {ct tv mv fs : Value} {ep now : Int} {s lb gb : Nat} {L : LV} {B0 B1 : Nat} {m : RM} {rt nv pv gv kv : Value} (h : PostW w po x d r c ct tv mv fs ep now s lb gb L B0 B1 m rt nv pv gv kv) (o : Ops) :
    Calls Tryz.prog 20 #[.pointer (some ⟨wb, 0, none⟩), .pointer (some ⟨po, 0, none⟩), .agg #[.int .i64 4, .int .i64 o.on, .int .i64 o.a, .int .i64 o.b, .int .i64 o.c, .int .i32 o.v, .int .i64 o.te, .int .i64 o.tn, .int .i64 o.fs, .int .i64 o.fle, .int .i64 o.fla, .int .i64 o.fwi, .int .i64 o.fke, .int .i64 o.fqu, .slice o.fa o.fn o.fcap]] w fun e w' => e = .returned (.bool true) ∧ ∃ mv', PostW w' po x d r c ct tv mv' fs ep now s lb gb L B0 B1 m rt nv pv gv kv ∧ Kept (fun k => k = po) w w' := by
  have hpl := lt_of_heap h.head
  obtain ⟨y0, y1, y2, hbw, yz⟩ := box3p w (.cells #[.int .i64 4, .int .i64 o.on, .int .i64 o.a, .int .i64 o.b, .int .i64 o.c, .int .i32 o.v, .int .i64 o.te, .int .i64 o.tn, .int .i64 o.fs, .int .i64 o.fle, .int .i64 o.fla, .int .i64 o.fwi, .int .i64 o.fke, .int .i64 o.fqu, .slice o.fa o.fn o.fcap] 39) (.cells #[.int .i64 0, .int .i64 0, .int .i32 0, .int .i32 0] 91) (.cells #[.int .i64 0, .int .i64 0, .int .i64 0, .int .i64 0, .int .i64 0, .int .i64 0, .int .i64 0, .int .i64 0] 77)
  have HPS := fun (V : World) (hb : Below w.heap.size w V) => hide (pquery_any (h.mill.later hb) h.sim.ok h.sim.time o.a o.b o.c (h.sim.st4 _))
  have HRS := fun (V : World) (hb : Below w.heap.size w V) => hide (rquery_any (h.ref.later hb) (by rw [h.sim.hc]; exact h.sim.ok) (by have := h.sim.len; omega) (by rw [h.sim.gone]; simp) (by rw [h.sim.pub]; simp) h.sim.nums (by rw [h.sim.hnow]; exact h.sim.time) o.a o.b o.c)
  rw [h.sim.query o.a o.b o.c] at HRS
  unfold clV at HRS
  generalize (pquery c now L o.a o.b o.c).1.cnt = Q1 at *
  generalize (pquery c now L o.a o.b o.c).1.sum = Q2 at *
  generalize (pquery c now L o.a o.b o.c).1.mn = Q3 at *
  generalize (pquery c now L o.a o.b o.c).1.mx = Q4 at *
  generalize (pquery c now L o.a o.b o.c).2 = QE at *
  obtain ⟨mb, mcap, hmv, _, hmbl⟩ := h.may.form (by omega)
  have HMB : Hid (w.cell? ⟨mb, 0, none⟩ = some (.pointer (some ⟨r, 0, none⟩))) := by
    have := h.may
    rw [hmv] at this
    show _ = _
    rw [this.cellAt 0 (by omega)]; rfl
  have H := hide h
  go_enter Tryz.func20, Tryz.ntmps20
  clear h
  go_wp2_with fail
  generalize (((w.alloc (.cells #[.int .i64 4, .int .i64 o.on, .int .i64 o.a, .int .i64 o.b, .int .i64 o.c, .int .i32 o.v, .int .i64 o.te, .int .i64 o.tn, .int .i64 o.fs, .int .i64 o.fle, .int .i64 o.fla, .int .i64 o.fwi, .int .i64 o.fke, .int .i64 o.fqu, .slice o.fa o.fn o.fcap] 39)).alloc (.cells #[.int .i64 0, .int .i64 0, .int .i32 0, .int .i32 0] 91)).alloc (.cells #[.int .i64 0, .int .i64 0, .int .i64 0, .int .i64 0, .int .i64 0, .int .i64 0, .int .i64 0, .int .i64 0] 77)) = X at *
  have hz3 := rlast X (.cells #[.int .i64 0, .int .i64 0, .int .i32 0, .int .i32 0] 91)
  have hbX : Below X.heap.size X (X.alloc (.cells #[.int .i64 0, .int .i64 0, .int .i32 0, .int .i32 0] 91)) := (Below.refl _ _).alloc (Nat.le_refl _) _
  have hs4 : (X.alloc (.cells #[.int .i64 0, .int .i64 0, .int .i32 0, .int .i32 0] 91)).heap.size = X.heap.size + 1 := rsize X _
  have hzl : X.heap.size < (X.alloc (.cells #[.int .i64 0, .int .i64 0, .int .i32 0, .int .i32 0] 91)).drew.heap.size := by show X.heap.size < (X.alloc (.cells #[.int .i64 0, .int .i64 0, .int .i32 0, .int .i32 0] 91)).heap.size; omega
  have HBX := hide hbX.drew
  have HC1 := HPS _ (hbw.trans (hbX.drew.mono hbw.size))
  have HC0 := HPS _ hbw.drew
  clear HPS
  have hpx := (hbw.block po hpl).trans (unhide H).head
  have z0 : X.cell? ⟨po, 0, none⟩ = some (.pointer (some ⟨x, 0, none⟩)) := by unfold postObj at hpx; rw [rcell hpx]; rfl
  have z2 : X.cell? ⟨w.heap.size, 2, none⟩ = some (.int .i64 o.a) := by rw [rcell y0]; rfl
  have z3 : X.cell? ⟨w.heap.size, 3, none⟩ = some (.int .i64 o.b) := by rw [rcell y0]; rfl
  have z4 : X.cell? ⟨w.heap.size, 4, none⟩ = some (.int .i64 o.c) := by rw [rcell y0]; rfl
  have hpX : po < X.heap.size := by omega
  have hqX : w.heap.size < X.heap.size := by omega
  have Y0 := hide y0
  have Y1 := hide y1
  have Y3 := hide hz3
  have HBW := hide hbw
  have YZ := hide yz
  have hpz : ¬ po = X.heap.size := by omega
  have hwz : ¬ w.heap.size = X.heap.size := by omega
  clear y0 y1 y2 hbw yz hpx hz3 hs4 hbX
  go_region_held3 (fun w' => w'.cell? ⟨po, 0, none⟩ = some (.pointer (some ⟨x, 0, none⟩)) ∧ w'.cell? ⟨w.heap.size, 2, none⟩ = some (.int .i64 o.a) ∧ w'.cell? ⟨w.heap.size, 3, none⟩ = some (.int .i64 o.b) ∧ w'.cell? ⟨w.heap.size, 4, none⟩ = some (.int .i64 o.c)) (first | go_keep | exact ⟨(set4_other (by assumption) (by assumption) _ _ _ _).trans (by assumption), (set4_other (by assumption) (by assumption) _ _ _ _).trans (by assumption), (set4_other (by assumption) (by assumption) _ _ _ _).trans (by assumption), (set4_other (by assumption) (by assumption) _ _ _ _).trans (by assumption)⟩) (first
    | (go_at_call 34; refine (unhide HC1).mono ?_; rintro e V ⟨rfl, hb0⟩; have hz := (hb0.block X.heap.size hzl).trans (unhide Y3); have hb : Below X.heap.size X V := (unhide HBX).trans (hb0.mono (unhide HBX).size); clear hb0; have hpV : po < V.heap.size := Nat.lt_of_lt_of_le hpX hb.size; have hqV : w.heap.size < V.heap.size := Nat.lt_of_lt_of_le hqX hb.size; have v0 := (hb.cell (p := ⟨po, 0, none⟩) hpX).trans z0; have v2 := (hb.cell (p := ⟨w.heap.size, 2, none⟩) hqX).trans z2; have v3 := (hb.cell (p := ⟨w.heap.size, 3, none⟩) hqX).trans z3; have v4 := (hb.cell (p := ⟨w.heap.size, 4, none⟩) hqX).trans z4; have n0 : V.cell? ⟨X.heap.size, 0, none⟩ = some (.int .i64 0) := (by rw [rcell hz]; rfl); have n1 : V.cell? ⟨X.heap.size, 1, none⟩ = some (.int .i64 0) := (by rw [rcell hz]; rfl); have n2 : V.cell? ⟨X.heap.size, 2, none⟩ = some (.int .i32 0) := (by rw [rcell hz]; rfl); have n3 : V.cell? ⟨X.heap.size, 3, none⟩ = some (.int .i32 0) := (by rw [rcell hz]; rfl); have nf := fun j => rfree hz j; have HZ := hide hz; have HBV := hide hb; clear hb hz)
    | (go_at_call 34; refine (unhide HC0).mono ?_; rintro e V ⟨rfl, hb0⟩; have hb : Below X.heap.size X V := ⟨hb0.os, hb0.tape, hb0.output, hb0.size, hb0.block⟩; clear hb0; have hpV : po < V.heap.size := Nat.lt_of_lt_of_le hpX hb.size; have hqV : w.heap.size < V.heap.size := Nat.lt_of_lt_of_le hqX hb.size; have v0 := (hb.cell (p := ⟨po, 0, none⟩) hpX).trans z0; have v2 := (hb.cell (p := ⟨w.heap.size, 2, none⟩) hqX).trans z2; have v3 := (hb.cell (p := ⟨w.heap.size, 3, none⟩) hqX).trans z3; have v4 := (hb.cell (p := ⟨w.heap.size, 4, none⟩) hqX).trans z4; have hpv : ¬ po = V.heap.size := (by have := hb.size; omega); have hwv : ¬ w.heap.size = V.heap.size := (by have := hb.size; omega); have HBV := hide hb; clear hb))
  all_goals (first
    | (have hP := AQ.ahead (Q1 := Q1) (Q2 := Q2) (Q3 := Q3) (Q4 := Q4) (unhide HBW) (unhide YZ) (unhide Y0) (unhide Y1) (unhide HBV) (unhide HZ); clear n0 n1 n2 n3 nf HZ; generalize ((((V.setCell ⟨X.heap.size, 0, none⟩ (.int .i64 Q1)).setCell ⟨X.heap.size, 1, none⟩ (.int .i64 Q2)).setCell ⟨X.heap.size, 2, none⟩ (.int .i32 Q3)).setCell ⟨X.heap.size, 3, none⟩ (.int .i32 Q4)) = Y at hP ⊢; generalize X.heap.size = z at hP ⊢)
    | (have hP := AQ.behind (Q1 := Q1) (Q2 := Q2) (Q3 := Q3) (Q4 := Q4) (unhide HBW) (unhide YZ) (unhide Y0) (unhide Y1) (unhide HBV); clear hpv hwv; generalize (V.alloc (.cells #[.int .i64 Q1, .int .i64 Q2, .int .i32 Q3, .int .i32 Q4] 91)) = Y at hP ⊢; generalize V.heap.size = z at hP ⊢))
  all_goals
    clear v0 v2 v3 v4 hpV hqV HBV z0 z2 z3 z4 hpX hqX Y0 Y1 Y3 HBW YZ HBX HC1 HC0 hzl hpz hwz
    have hzY := lt_of_heap hP.cell
    have hqY := lt_of_heap hP.res
    have hneq : ¬ w.heap.size + 1 = z := by have := hP.low; omega
    have a0 : Y.cell? ⟨z, 0, none⟩ = some (.int .i64 Q1) := by rw [rcell hP.cell]; rfl
    have a1 : Y.cell? ⟨z, 1, none⟩ = some (.int .i64 Q2) := by rw [rcell hP.cell]; rfl
    have a2 : Y.cell? ⟨z, 2, none⟩ = some (.int .i32 Q3) := by rw [rcell hP.cell]; rfl
    have a3 : Y.cell? ⟨z, 3, none⟩ = some (.int .i32 Q4) := by rw [rcell hP.cell]; rfl
    have b0 : Y.cell? ⟨w.heap.size + 1, 0, none⟩ = some (.int .i64 0) := by rw [rcell hP.res]; rfl
    have b1 : Y.cell? ⟨w.heap.size + 1, 1, none⟩ = some (.int .i64 0) := by rw [rcell hP.res]; rfl
    have b2 : Y.cell? ⟨w.heap.size + 1, 2, none⟩ = some (.int .i32 0) := by rw [rcell hP.res]; rfl
    have b3 : Y.cell? ⟨w.heap.size + 1, 3, none⟩ = some (.int .i32 0) := by rw [rcell hP.res]; rfl
    have bf := fun j => rfree hP.res j
    have HP := hide hP
    clear hP
    go_wp2_with (go_at_call 24; refine (num_any _ _).mono ?_; rintro e V1 ⟨rfl, hV1⟩; rw [hV1]; clear hV1)
  all_goals
    have hP := unhide HP
    have hk8 := kept4 (w := Y) (g := w.heap.size + 1) (.int .i64 Q1) (.int .i64 Q2) (.int .i32 Q3) (.int .i32 Q4)
    have hs8 := aset4 hP.res (.int .i64 Q1) (.int .i64 Q2) (.int .i32 Q3) (.int .i32 Q4)
    have ho8 := hk8.heap hP.op (by omega)
    have hw8 : Below w.heap.size w ((((Y.setCell ⟨w.heap.size + 1, 0, none⟩ (.int .i64 Q1)).setCell ⟨w.heap.size + 1, 1, none⟩ (.int .i64 Q2)).setCell ⟨w.heap.size + 1, 2, none⟩ (.int .i32 Q3)).setCell ⟨w.heap.size + 1, 3, none⟩ (.int .i32 Q4)) := hP.below.trans (hk8.below hP.below.size (fun k hk => by omega))
    have HVW := hide (views_any (w := ((((Y.setCell ⟨w.heap.size + 1, 0, none⟩ (.int .i64 Q1)).setCell ⟨w.heap.size + 1, 1, none⟩ (.int .i64 Q2)).setCell ⟨w.heap.size + 1, 2, none⟩ (.int .i32 Q3)).setCell ⟨w.heap.size + 1, 3, none⟩ (.int .i32 Q4))) (by rw [← hmv]; exact (hw8.block po hpl).trans (unhide H).head) ((hw8.cell (p := ⟨mb, 0, none⟩) hmbl).trans (unhide HMB)) (Nat.lt_of_lt_of_le hmbl hw8.size))
    have HS8 := hide hs8
    have HW8 := hide hw8
    have HO8 := hide ho8
    clear hP HP hk8 hs8 ho8 hw8 a0 a1 a2 a3 b0 b1 b2 b3 bf hzY hqY hneq
    generalize ((((Y.setCell ⟨w.heap.size + 1, 0, none⟩ (.int .i64 Q1)).setCell ⟨w.heap.size + 1, 1, none⟩ (.int .i64 Q2)).setCell ⟨w.heap.size + 1, 2, none⟩ (.int .i32 Q3)).setCell ⟨w.heap.size + 1, 3, none⟩ (.int .i32 Q4)) = X8 at *
    refine (unhide HVW).mono ?_
    rintro e W1 ⟨g1, cap1, rfl, hrow1, hb1⟩
    have ho1 := (hb1.block w.heap.size (lt_of_heap (unhide HO8))).trans (unhide HO8)
    have hw1 := (unhide HW8).trans (hb1.mono (unhide HW8).size)
    have q0 : W1.cell? ⟨w.heap.size, 0, none⟩ = some (.int .i64 4) := by rw [rcell ho1]; rfl
    have q2 : W1.cell? ⟨w.heap.size, 2, none⟩ = some (.int .i64 o.a) := by rw [rcell ho1]; rfl
    have q3 : W1.cell? ⟨w.heap.size, 3, none⟩ = some (.int .i64 o.b) := by rw [rcell ho1]; rfl
    have q4 : W1.cell? ⟨w.heap.size, 4, none⟩ = some (.int .i64 o.c) := by rw [rcell ho1]; rfl
    have g0 : W1.cell? ⟨g1, 0, none⟩ = some (.pointer (some ⟨r, 0, none⟩)) := by rw [hrow1.cellAt 0 (by omega)]; rfl
    have hg1 : g1 < W1.heap.size := own_lt hrow1 g1 rfl
    have hqW := lt_of_heap ho1
    have hz3 := rlast W1 (.cells #[.int .i64 0, .int .i64 0, .int .i32 0, .int .i32 0] 91)
    have hbX : Below W1.heap.size W1 (W1.alloc (.cells #[.int .i64 0, .int .i64 0, .int .i32 0, .int .i32 0] 91)) := (Below.refl _ _).alloc (Nat.le_refl _) _
    have hs4 : (W1.alloc (.cells #[.int .i64 0, .int .i64 0, .int .i32 0, .int .i32 0] 91)).heap.size = W1.heap.size + 1 := rsize W1 _
    have hzl : W1.heap.size < (W1.alloc (.cells #[.int .i64 0, .int .i64 0, .int .i32 0, .int .i32 0] 91)).drew.heap.size := by show W1.heap.size < (W1.alloc (.cells #[.int .i64 0, .int .i64 0, .int .i32 0, .int .i32 0] 91)).heap.size; omega
    have HC1 := HRS _ (hw1.trans (hbX.drew.mono hw1.size))
    have HC0 := HRS _ hw1.drew
    have hgz : ¬ g1 = W1.heap.size := by omega
    have hwz : ¬ w.heap.size = W1.heap.size := by omega
    have HBX := hide hbX.drew
    have Y3 := hide hz3
    have HS1 := hide ((hb1.block (w.heap.size + 1) (lt_of_heap (unhide HS8))).trans (unhide HS8))
    have HO1 := hide ho1
    have HW1 := hide hw1
    clear ho1 hw1 hrow1 hb1 HVW HRS hs4 hbX hz3 HS8 HW8 HO8
    go_wp2_with fail
    refine wp_loop_rounds 2 ?_
    rw [rounds_succ]
    go_wp2_with fail
    go_region_held3 (fun w' => w'.cell? ⟨g1, 0, none⟩ = some (.pointer (some ⟨r, 0, none⟩)) ∧ w'.cell? ⟨w.heap.size, 2, none⟩ = some (.int .i64 o.a) ∧ w'.cell? ⟨w.heap.size, 3, none⟩ = some (.int .i64 o.b) ∧ w'.cell? ⟨w.heap.size, 4, none⟩ = some (.int .i64 o.c)) (first | go_keep | exact ⟨(set4_other (by assumption) (by assumption) _ _ _ _).trans (by assumption), (set4_other (by assumption) (by assumption) _ _ _ _).trans (by assumption), (set4_other (by assumption) (by assumption) _ _ _ _).trans (by assumption), (set4_other (by assumption) (by assumption) _ _ _ _).trans (by assumption)⟩) (first
      | (go_at_call 37; refine (unhide HC1).mono ?_; rintro e V ⟨rfl, hb0⟩; have hz := (hb0.block W1.heap.size hzl).trans (unhide Y3); have hb : Below W1.heap.size W1 V := (unhide HBX).trans (hb0.mono (unhide HBX).size); clear hb0; have hgV : g1 < V.heap.size := Nat.lt_of_lt_of_le hg1 hb.size; have hqV : w.heap.size < V.heap.size := Nat.lt_of_lt_of_le hqW hb.size; have v0 := (hb.cell (p := ⟨g1, 0, none⟩) hg1).trans g0; have v2 := (hb.cell (p := ⟨w.heap.size, 2, none⟩) hqW).trans q2; have v3 := (hb.cell (p := ⟨w.heap.size, 3, none⟩) hqW).trans q3; have v4 := (hb.cell (p := ⟨w.heap.size, 4, none⟩) hqW).trans q4; have n0 : V.cell? ⟨W1.heap.size, 0, none⟩ = some (.int .i64 0) := (by rw [rcell hz]; rfl); have n1 : V.cell? ⟨W1.heap.size, 1, none⟩ = some (.int .i64 0) := (by rw [rcell hz]; rfl); have n2 : V.cell? ⟨W1.heap.size, 2, none⟩ = some (.int .i32 0) := (by rw [rcell hz]; rfl); have n3 : V.cell? ⟨W1.heap.size, 3, none⟩ = some (.int .i32 0) := (by rw [rcell hz]; rfl); have nf := fun j => rfree hz j; have HZ := hide hz; have HBV := hide hb; clear hb hz)
      | (go_at_call 37; refine (unhide HC0).mono ?_; rintro e V ⟨rfl, hb0⟩; have hb : Below W1.heap.size W1 V := ⟨hb0.os, hb0.tape, hb0.output, hb0.size, hb0.block⟩; clear hb0; have hgV : g1 < V.heap.size := Nat.lt_of_lt_of_le hg1 hb.size; have hqV : w.heap.size < V.heap.size := Nat.lt_of_lt_of_le hqW hb.size; have v0 := (hb.cell (p := ⟨g1, 0, none⟩) hg1).trans g0; have v2 := (hb.cell (p := ⟨w.heap.size, 2, none⟩) hqW).trans q2; have v3 := (hb.cell (p := ⟨w.heap.size, 3, none⟩) hqW).trans q3; have v4 := (hb.cell (p := ⟨w.heap.size, 4, none⟩) hqW).trans q4; have hgv : ¬ g1 = V.heap.size := (by have := hb.size; omega); have hwv : ¬ w.heap.size = V.heap.size := (by have := hb.size; omega); have HBV := hide hb; clear hb))
  all_goals (first
    | (have hP := AR.ahead (Q1 := Q1) (Q2 := Q2) (Q3 := Q3) (Q4 := Q4) (unhide HBV) (unhide HZ); clear n0 n1 n2 n3 nf HZ; generalize ((((V.setCell ⟨W1.heap.size, 0, none⟩ (.int .i64 Q1)).setCell ⟨W1.heap.size, 1, none⟩ (.int .i64 Q2)).setCell ⟨W1.heap.size, 2, none⟩ (.int .i32 Q3)).setCell ⟨W1.heap.size, 3, none⟩ (.int .i32 Q4)) = U1 at hP ⊢; obtain ⟨hbP, hcP⟩ := hP; generalize hz2 : W1.heap.size = z2 at hcP ⊢; clear hz2)
    | (have hP := AR.behind (Q1 := Q1) (Q2 := Q2) (Q3 := Q3) (Q4 := Q4) (unhide HBV); clear hgv hwv; generalize (V.alloc (.cells #[.int .i64 Q1, .int .i64 Q2, .int .i32 Q3, .int .i32 Q4] 91)) = U1 at hP ⊢; obtain ⟨hbP, hcP⟩ := hP; generalize V.heap.size = z2 at hcP ⊢))
  all_goals
    clear v0 v2 v3 v4 hgV hqV HBV q2 q3 q4 HBX HC1 HC0 hzl hgz hwz Y3
    have g2 : U1.cell? ⟨g1, 0, none⟩ = some (.pointer (some ⟨r, 0, none⟩)) := (hbP.cell (p := ⟨g1, 0, none⟩) hg1).trans g0
    have hs1 := (hbP.block (w.heap.size + 1) (lt_of_heap (unhide HS1))).trans (unhide HS1)
    have s0 : U1.cell? ⟨w.heap.size + 1, 0, none⟩ = some (.int .i64 Q1) := by rw [rcell hs1]; rfl
    have s1 : U1.cell? ⟨w.heap.size + 1, 1, none⟩ = some (.int .i64 Q2) := by rw [rcell hs1]; rfl
    have s2 : U1.cell? ⟨w.heap.size + 1, 2, none⟩ = some (.int .i32 Q3) := by rw [rcell hs1]; rfl
    have s3 : U1.cell? ⟨w.heap.size + 1, 3, none⟩ = some (.int .i32 Q4) := by rw [rcell hs1]; rfl
    have a0 : U1.cell? ⟨z2, 0, none⟩ = some (.int .i64 Q1) := by rw [rcell hcP]; rfl
    have a1 : U1.cell? ⟨z2, 1, none⟩ = some (.int .i64 Q2) := by rw [rcell hcP]; rfl
    have a2 : U1.cell? ⟨z2, 2, none⟩ = some (.int .i32 Q3) := by rw [rcell hcP]; rfl
    have a3 : U1.cell? ⟨z2, 3, none⟩ = some (.int .i32 Q4) := by rw [rcell hcP]; rfl
    have hm0 : 0 < 1 := by decide
    have hm1 : 0 + 1 ≤ maxLen := by simp [maxLen]
    have hm2 : (0 + 1) * 8 ≤ 140737488355328 := by omega
    have hg2 : g1 < U1.heap.size := Nat.lt_of_lt_of_le hg1 hbP.size
    have HBP := hide hbP
    clear hs1 hbP hcP
    go_wp2_with (first | (at_builtin; refine wpList_append_keep rfl _ _ 51 rfl 0 56 _ 1 8 Tryz.underlying51 Tryz.infoRefP rfl (by decide) (.slice none 0 0) 0 [] rfl (World.ownsRow_nil _ _ _ _) ⟨U1.heap.size, 0, none⟩ 1 1 [.pointer (some ⟨r, 0, none⟩)] rfl rfl (World.news_of_block (cs := #[.pointer (some ⟨r, 0, none⟩)]) (rlast U1 _)) (by intro u hu; simp at hu; subst hu; rfl) hm0 hm1 hm2 (Nat.zero_le _) ?_; intro g gcap W4 hown4 hold4 hgrow4 hat4 hlt4; have HO4 := hide hown4; have HG4 := hide hgrow4; clear hown4 hold4 hgrow4 hat4) | go_in)
    have hbU : Below U1.heap.size U1 (U1.alloc (.cells #[.pointer (some ⟨r, 0, none⟩)] 56)) := (Below.refl _ _).alloc (Nat.le_refl _) _
    have hbUW : Below U1.heap.size U1 W4 := hbU.grown (show (U1.alloc (.cells #[.pointer (some ⟨r, 0, none⟩)] 56)).grownBy W4 none from unhide HG4) hbU.size (fun k e => by cases e)
    have hb1W : Below W1.heap.size W1 W4 := (unhide HBP).trans (hbUW.mono (unhide HBP).size)
    have hwW : Below w.heap.size w W4 := (unhide HW1).trans (hb1W.mono (unhide HW1).size)
    have hp4 := (hwW.block po hpl).trans (unhide H).head
    have ho4 := (hb1W.block w.heap.size (lt_of_heap (unhide HO1))).trans (unhide HO1)
    have k9 : W4.cell? ⟨po, 9, none⟩ = some mv := by have hq := hp4; unfold postObj at hq; rw [rcell hq]; rfl
    have k13 : W4.cell? ⟨po, 13, none⟩ = some (.bool false) := by have hq := hp4; unfold postObj at hq; rw [rcell hq]; rfl
    have kf4 : ∀ j, W4.frozen? ⟨po, j, none⟩ = false := fun j => by have hq := hp4; unfold postObj at hq; exact rfree hq j
    have k0 : W4.cell? ⟨w.heap.size, 0, none⟩ = some (.int .i64 4) := by rw [rcell ho4]; rfl
    have hpo4 := lt_of_heap hp4
    have HP4 := hide hp4
    have HWW := hide hwW
    clear hbU hbUW hb1W hwW hp4 ho4 s0 s1 s2 s3 a0 a1 a2 a3 g0 g2 q0
    rw [rounds_succ]
    go_wp2_with fail
    go_ret
    exact ⟨rfl, _, post_may (unhide H) (unhide HWW) (unhide HO4)⟩
end Go.Proofs.YtgadceofpbfleaaGreat
