import Derived.Test.YtgadceofpbfleaaGreatQLaw0

/- Walks: the statement's changed, for Ingest and Tick (written by wip/mklaw2.py). -/
namespace Go.Proofs.YtgadceofpbfleaaGreat
open Go.RowKit Go.Maps Go.Shelf
set_option linter.unusedVariables false

/-- a post: the program's mill, its disk, and the one mill of the document's that it may be like. -/
structure PostW (w : World) (po x d r : Nat) (c : Cf) (ct tv mv fs : Value) (ep now : Int) (s lb gb : Nat) (L : LV) (B0 B1 : Nat) (m : RM) (rt nv pv gv kv : Value) : Prop where
  head : w.heap[po]? = some (postObj x d c ct mv ep)
  mill : MillAt w x c tv ep now s lb gb L
  disk : DiskAt 67 75 B0 w d opS2 fs
  may : w.ownsRow 0 56 1 mv 1 [.pointer (some ⟨r, 0, none⟩)]
  ref : RefAt B1 w r m rt nv pv gv kv
  sim : Sim c m now L
  epo : m.epoch = ep
section
variable {w : World} {po x d r : Nat} {c : Cf} {ct tv mv fs : Value} {ep now : Int} {s lb gb : Nat} {L : LV} {B0 B1 : Nat} {m : RM} {rt nv pv gv kv : Value}
theorem PostW.po_lb (h : PostW w po x d r c ct tv mv fs ep now s lb gb L B0 B1 m rt nv pv gv kv) : ¬ po = lb := fun e => by
  obtain ⟨es, cl, hb, _⟩ := h.mill.set.live
  have hh := h.head
  rw [e, hb] at hh; cases hh
theorem PostW.po_x (h : PostW w po x d r c ct tv mv fs ep now s lb gb L B0 B1 m rt nv pv gv kv) : ¬ po = x := fun e => by
  have hh := h.head
  unfold postObj at hh
  rw [e, h.mill.head] at hh; cases hh
/-- its other blocks. -/
def restFoot (d r : Nat) (fs mv rt nv pv gv kv : Value) (k : Nat) : Prop := foot d fs k ∨ mv.ownBlock = some k ∨ rfoot r rt nv pv gv kv k
theorem PostW.kinds (h : PostW w po x d r c ct tv mv fs ep now s lb gb L B0 B1 m rt nv pv gv kv) : ∀ k, restFoot d r fs mv rt nv pv gv kv k → ∃ cs t, w.heap[k]? = some (.cells cs t (0, 0)) ∧ t ≠ 108 ∧ t ≠ 54 := fun k hk => by
  rcases hk with (rfl | hk) | hk | rfl | hk | hk | hk | hk | hk
  · exact ⟨_, _, h.disk.head, by decide, by decide⟩
  · obtain ⟨cur, hc⟩ := owns_type h.disk.row hk; exact ⟨_, _, hc, by decide, by decide⟩
  · obtain ⟨cur, hc⟩ := owns_type h.may hk; exact ⟨_, _, hc, by decide, by decide⟩
  · exact ⟨_, _, h.ref.head, by decide, by decide⟩
  · obtain ⟨cur, hc⟩ := owns_type h.ref.trow hk; exact ⟨_, _, hc, by decide, by decide⟩
  · obtain ⟨cur, hc⟩ := owns_type h.ref.nrow hk; exact ⟨_, _, hc, by decide, by decide⟩
  · obtain ⟨cur, hc⟩ := owns_type h.ref.prow hk; exact ⟨_, _, hc, by decide, by decide⟩
  · obtain ⟨cur, hc⟩ := owns_type h.ref.grow hk; exact ⟨_, _, hc, by decide, by decide⟩
  · obtain ⟨cur, hc⟩ := owns_type h.ref.krow hk; exact ⟨_, _, hc, by decide, by decide⟩
theorem PostW.apart_lb (h : PostW w po x d r c ct tv mv fs ep now s lb gb L B0 B1 m rt nv pv gv kv) : ∀ k, restFoot d r fs mv rt nv pv gv kv k → ¬ k = lb := fun k hk e => by
  obtain ⟨cs, t, hc, _, _⟩ := h.kinds k hk
  obtain ⟨es, cl, hb, _⟩ := h.mill.set.live
  rw [e, hb] at hc; cases hc
theorem PostW.apart_x (h : PostW w po x d r c ct tv mv fs ep now s lb gb L B0 B1 m rt nv pv gv kv) : ∀ k, restFoot d r fs mv rt nv pv gv kv k → ¬ k = x := fun k hk e => by
  obtain ⟨cs, t, hc, h1, _⟩ := h.kinds k hk
  rw [e, h.mill.head] at hc; cases hc; exact h1 rfl
end
theorem Tryz.infoRefP : (Tryz.prog.info? 56).map (fun i => (i.zero, i.size, i.bytes)) = some (some (.pointer none), 1, 8) := by kernel_rfl
theorem heap_second (w : World) (o o2 : Obj) : ((w.alloc o).alloc o2).heap[w.heap.size + 1]? = some o2 := (box2 w o o2).2.1
theorem not_po {w : World} {po x d : Nat} {c : Cf} {ct mv : Value} {ep : Int} (h : w.heap[po]? = some (postObj x d c ct mv ep)) : ∀ (cs : Array Value) (t : TypeId), t ≠ 54 → ∀ {k : Nat} {fr : Nat × Nat}, w.heap[k]? = some (.cells cs t fr) → k = po → False := fun cs t ht k fr hk e => by
  unfold postObj at h
  rw [e, h] at hk; cases hk; exact ht rfl
theorem ing_epoch (m : RM) (ser tm val : Int) : (m.ingest ser tm val).1.epoch = m.epoch := by
  unfold RM.ingest; repeat' split
  all_goals rfl
theorem tick_epoch (m : RM) (n : Int) : (m.tick n).1.epoch = m.epoch := by
  unfold RM.tick; split <;> rfl
theorem pingest_13 (c : Cf) (now : Int) (L : LV) (ser tm val : Int) : ¬ (pingest c now L ser tm val).2 = 13 := by
  unfold pingest; repeat' split
  all_goals simp
theorem ptick_13 (now n : Int) : ¬ (ptick now n).2 = 13 := by unfold ptick; split <;> simp

set_option maxRecDepth 8000 in
set_option maxHeartbeats 8000000 in
theorem changed_ing {w : World} {po x d r : Nat} {c : Cf} {ct tv mv fs : Value} {ep now : Int} {s lb gb : Nat} {L : LV} {B0 B1 : Nat} {m : RM} {rt nv pv gv kv : Value} (h : PostW w po x d r c ct tv mv fs ep now s lb gb L B0 B1 m rt nv pv gv kv) (o : Ops) (hval : -2147483648 ≤ o.v ∧ o.v ≤ 2147483647) :
    Calls Tryz.prog 19 #[.pointer (some ⟨po, 0, none⟩), .agg #[.int .i64 2, .int .i64 o.on, .int .i64 o.a, .int .i64 o.b, .int .i64 o.c, .int .i32 o.v, .int .i64 o.te, .int .i64 o.tn, .int .i64 o.fs, .int .i64 o.fle, .int .i64 o.fla, .int .i64 o.fwi, .int .i64 o.fke, .int .i64 o.fqu, .slice o.fa o.fn o.fcap]] w fun e w' => e = .returned (.bool true) ∧ ∃ r' B' mv' rt' nv' pv' gv' kv', PostW w' po x d r' c ct tv mv' fs ep now s lb gb (pingest c now L o.a o.b o.v).1 B0 B' (m.ingest o.a o.b o.v).1 rt' nv' pv' gv' kv' ∧ Kept (fun k => k = lb ∨ k = po) w w' := by
  have hpl := lt_of_heap h.head
  have HM := hide h.mill
  have hpn := h.po_lb
  obtain ⟨hcode, hsim⟩ := h.sim.ingest o.a o.b o.v hval
  have HSIM := hide hsim
  have HT := fun V hb => hide (token_any (w := V) c (show V.heap[po]? = some (postObj x d c ct mv ep) from ((hb : Below w.heap.size w V).block po hpl).trans h.head) { o with kd := 2 })
  dsimp only at HT
  have hb0 : Below w.heap.size w (w.alloc (.cells #[.int .i64 2, .int .i64 o.on, .int .i64 o.a, .int .i64 o.b, .int .i64 o.c, .int .i32 o.v, .int .i64 o.te, .int .i64 o.tn, .int .i64 o.fs, .int .i64 o.fle, .int .i64 o.fla, .int .i64 o.fwi, .int .i64 o.fke, .int .i64 o.fqu, .slice o.fa o.fn o.fcap] 39)) := (Below.refl _ _).alloc (Nat.le_refl _) _
  have HO0 := hide (rlast w (.cells #[.int .i64 2, .int .i64 o.on, .int .i64 o.a, .int .i64 o.b, .int .i64 o.c, .int .i32 o.v, .int .i64 o.te, .int .i64 o.tn, .int .i64 o.fs, .int .i64 o.fle, .int .i64 o.fla, .int .i64 o.fwi, .int .i64 o.fke, .int .i64 o.fqu, .slice o.fa o.fn o.fcap] 39))
  have hz0 := rsize w (.cells #[.int .i64 2, .int .i64 o.on, .int .i64 o.a, .int .i64 o.b, .int .i64 o.c, .int .i32 o.v, .int .i64 o.te, .int .i64 o.tn, .int .i64 o.fs, .int .i64 o.fle, .int .i64 o.fla, .int .i64 o.fwi, .int .i64 o.fke, .int .i64 o.fqu, .slice o.fa o.fn o.fcap] 39)
  have HT0 := HT _ hb0
  have H := hide h
  clear HT hsim
  go_enter Tryz.func19, Tryz.ntmps19
  go_wp2_with fail
  generalize (w.alloc (.cells #[.int .i64 2, .int .i64 o.on, .int .i64 o.a, .int .i64 o.b, .int .i64 o.c, .int .i32 o.v, .int .i64 o.te, .int .i64 o.tn, .int .i64 o.fs, .int .i64 o.fle, .int .i64 o.fla, .int .i64 o.fwi, .int .i64 o.fke, .int .i64 o.fqu, .slice o.fa o.fn o.fcap] 39)) = X0 at *
  refine (unhide HT0).mono ?_
  rintro e w1 ⟨rfl, hb1⟩
  have hw1 := hb0.trans (hb1.mono hb0.size)
  have Ha := (hb1.block w.heap.size (by omega)).trans (unhide HO0)
  have a0 : w1.cell? ⟨w.heap.size, 0, none⟩ = some (.int .i64 2) := by rw [rcell Ha]; rfl
  have a1 : w1.cell? ⟨w.heap.size, 1, none⟩ = some (.int .i64 o.on) := by rw [rcell Ha]; rfl
  have a2 : w1.cell? ⟨w.heap.size, 2, none⟩ = some (.int .i64 o.a) := by rw [rcell Ha]; rfl
  have a3 : w1.cell? ⟨w.heap.size, 3, none⟩ = some (.int .i64 o.b) := by rw [rcell Ha]; rfl
  have a4 : w1.cell? ⟨w.heap.size, 4, none⟩ = some (.int .i64 o.c) := by rw [rcell Ha]; rfl
  have a5 : w1.cell? ⟨w.heap.size, 5, none⟩ = some (.int .i32 o.v) := by rw [rcell Ha]; rfl
  have a6 : w1.cell? ⟨w.heap.size, 6, none⟩ = some (.int .i64 o.te) := by rw [rcell Ha]; rfl
  have a7 : w1.cell? ⟨w.heap.size, 7, none⟩ = some (.int .i64 o.tn) := by rw [rcell Ha]; rfl
  have a8 : w1.cell? ⟨w.heap.size, 8, none⟩ = some (.int .i64 o.fs) := by rw [rcell Ha]; rfl
  have a9 : w1.cell? ⟨w.heap.size, 9, none⟩ = some (.int .i64 o.fle) := by rw [rcell Ha]; rfl
  have a10 : w1.cell? ⟨w.heap.size, 10, none⟩ = some (.int .i64 o.fla) := by rw [rcell Ha]; rfl
  have a11 : w1.cell? ⟨w.heap.size, 11, none⟩ = some (.int .i64 o.fwi) := by rw [rcell Ha]; rfl
  have a12 : w1.cell? ⟨w.heap.size, 12, none⟩ = some (.int .i64 o.fke) := by rw [rcell Ha]; rfl
  have a13 : w1.cell? ⟨w.heap.size, 13, none⟩ = some (.int .i64 o.fqu) := by rw [rcell Ha]; rfl
  have a14 : w1.cell? ⟨w.heap.size, 14, none⟩ = some (.slice o.fa o.fn o.fcap) := by rw [rcell Ha]; rfl
  have af := fun j => rfree Ha j
  have hq1 := lt_of_heap Ha
  have HA := hide Ha
  have HW1 := hide hw1
  clear Ha hw1 hb1 hb0 HT0 HO0 hz0 h
  go_wp2_with fail
  have hs1 : ((w1.setCell ⟨w.heap.size, 6, none⟩ (.int .i64 o.te)).setCell ⟨w.heap.size, 7, none⟩ (.int .i64 o.tn)).heap[w.heap.size]? = some (.cells #[.int .i64 2, .int .i64 o.on, .int .i64 o.a, .int .i64 o.b, .int .i64 o.c, .int .i32 o.v, .int .i64 o.te, .int .i64 o.tn, .int .i64 o.fs, .int .i64 o.fle, .int .i64 o.fla, .int .i64 o.fwi, .int .i64 o.fke, .int .i64 o.fqu, .slice o.fa o.fn o.fcap] 39 (0, 0)) := rset (i := 7) (rset (i := 6) (unhide HA) _) _
  have hw1z := (unhide HW1).size
  have hwX : Below w.heap.size w (((w1.setCell ⟨w.heap.size, 6, none⟩ (.int .i64 o.te)).setCell ⟨w.heap.size, 7, none⟩ (.int .i64 o.tn)).alloc (.cells #[.int .i64 o.te, .int .i64 o.tn] 37)) := (((unhide HW1).setCell (p := ⟨w.heap.size, 6, none⟩) (Nat.le_refl _) _).setCell (p := ⟨w.heap.size, 7, none⟩) (Nat.le_refl _) _).alloc (by simpa [World.setCell] using hw1z) _
  have hsz : ((w1.setCell ⟨w.heap.size, 6, none⟩ (.int .i64 o.te)).setCell ⟨w.heap.size, 7, none⟩ (.int .i64 o.tn)).heap.size = w1.heap.size := by simp [World.setCell]
  have HOX := hide ((Below.heap_alloc _ (.cells #[.int .i64 o.te, .int .i64 o.tn] 37) _ (lt_of_heap hs1)).trans hs1)
  have htX := rlast ((w1.setCell ⟨w.heap.size, 6, none⟩ (.int .i64 o.te)).setCell ⟨w.heap.size, 7, none⟩ (.int .i64 o.tn)) (.cells #[.int .i64 o.te, .int .i64 o.tn] 37)
  rw [hsz] at htX
  have HTX := hide htX
  have hXz : (((w1.setCell ⟨w.heap.size, 6, none⟩ (.int .i64 o.te)).setCell ⟨w.heap.size, 7, none⟩ (.int .i64 o.tn)).alloc (.cells #[.int .i64 o.te, .int .i64 o.tn] 37)).heap.size = w1.heap.size + 1 := by rw [rsize, hsz]
  have h := unhide H
  have HCA := hide (called_ing ((unhide HM).later hwX) h.sim.ok h.sim.time ⟨h.sim.ubound.1, by have := h.sim.ubound; omega⟩ h.sim.stOk (by have := h.sim.llen; omega) h.sim.small c ((hwX.block po hpl).trans h.head) hpn { o with kd := 2 } hval o.te o.tn)
  dsimp only at HCA
  have HWX := hide hwX
  have HXZ := hide hXz
  clear a0 a1 a2 a3 a4 a5 a6 a7 a8 a9 a10 a11 a12 a13 a14 af hs1 hsz htX hwX hXz h hw1z
  generalize (((w1.setCell ⟨w.heap.size, 6, none⟩ (.int .i64 o.te)).setCell ⟨w.heap.size, 7, none⟩ (.int .i64 o.tn)).alloc (.cells #[.int .i64 o.te, .int .i64 o.tn] 37)) = X at *
  obtain ⟨cd, hcd⟩ : ∃ cd, (pingest c now L o.a o.b o.v).2 = cd := ⟨_, rfl⟩
  have hcd13 : (cd == 13) = false := by rw [← hcd]; simp; exact pingest_13 _ _ _ _ _ _
  rw [hcd] at HCA hcode
  refine (unhide HCA).mono ?_
  rintro e V ⟨rfl, hmV, hkV⟩
  have HMV := hide hmV
  have HKV := hide hkV
  have HCODE := hide hcode
  have HCDE := hide hcd
  clear hmV hkV hcode hcd HCA
  have hkwV : Kept (fun k => k = lb) w V := (Kept.of_below (unhide HWX)).trans (unhide HKV) (fun _ _ h => h)
  have hkwY : Kept (fun k => k = lb) w (V.alloc (.cells #[.int .i64 0, .int .i64 0, .int .i64 0, .int .i64 0, .int .i64 0, .int .i64 0, .int .i64 0, .int .i64 0, .int .i64 0, .int .i64 0, .int .i64 0] 64)) := hkwV.alloc _
  have hVY : Below V.heap.size V (V.alloc (.cells #[.int .i64 0, .int .i64 0, .int .i64 0, .int .i64 0, .int .i64 0, .int .i64 0, .int .i64 0, .int .i64 0, .int .i64 0, .int .i64 0, .int .i64 0] 64)) := (Below.refl _ _).alloc (Nat.le_refl _) _
  have hap := (unhide H).apart_lb
  have hpV := hkwV.heap (unhide H).head hpn
  have p1 : V.cell? ⟨po, 1, none⟩ = some (.pointer (some ⟨d, 0, none⟩)) := by unfold postObj at hpV; rw [rcell hpV]; rfl
  have hpVl := lt_of_heap hpV
  have HSTP := hide (stopped_any B0 d opS2 fs _ ((unhide H).disk.kept hkwY (fun k hk => hap k (.inl hk))))
  rw [show stoppedB opS2 = false from rfl] at HSTP
  have HDY := hide ((unhide H).disk.kept hkwY (fun k hk => hap k (.inl hk)))
  have HRY := hide ((unhide H).ref.kept hkwY (fun k hk => hap k (.inr (.inr hk))))
  have HVY := hide (owns_kept (unhide H).may hkwY (fun k hk => hap k (.inr (.inl hk))))
  have HMY := hide ((unhide HMV).later hVY)
  have HPY := hide (hkwY.heap (unhide H).head hpn)
  have HKY := hide hkwY
  have hlow := (unhide H).mill.set.live.lt
  have HOY := hide ((Below.heap_alloc _ (.cells #[.int .i64 0, .int .i64 0, .int .i64 0, .int .i64 0, .int .i64 0, .int .i64 0, .int .i64 0, .int .i64 0, .int .i64 0, .int .i64 0, .int .i64 0] 64) _ (lt_of_heap ((unhide HKV).heap (unhide HOX) (by omega)))).trans ((unhide HKV).heap (unhide HOX) (by omega)))
  have hw1z := (unhide HW1).size
  have HTY := hide ((Below.heap_alloc _ (.cells #[.int .i64 0, .int .i64 0, .int .i64 0, .int .i64 0, .int .i64 0, .int .i64 0, .int .i64 0, .int .i64 0, .int .i64 0, .int .i64 0, .int .i64 0] 64) _ (lt_of_heap ((unhide HKV).heap (unhide HTX) (by omega)))).trans ((unhide HKV).heap (unhide HTX) (by omega)))
  have HJY := hide (rlast V (.cells #[.int .i64 0, .int .i64 0, .int .i64 0, .int .i64 0, .int .i64 0, .int .i64 0, .int .i64 0, .int .i64 0, .int .i64 0, .int .i64 0, .int .i64 0] 64))
  have hVz : (V.alloc (.cells #[.int .i64 0, .int .i64 0, .int .i64 0, .int .i64 0, .int .i64 0, .int .i64 0, .int .i64 0, .int .i64 0, .int .i64 0, .int .i64 0, .int .i64 0] 64)).heap.size = V.heap.size + 1 := rsize _ _
  clear hkwV hkwY hVY hap hpV
  go_wp2_with fail
  have HVZ := hide hVz
  clear p1 hpVl hVz
  generalize (V.alloc (.cells #[.int .i64 0, .int .i64 0, .int .i64 0, .int .i64 0, .int .i64 0, .int .i64 0, .int .i64 0, .int .i64 0, .int .i64 0, .int .i64 0, .int .i64 0] 64)) = Y at *
  refine (unhide HSTP).mono ?_
  rintro e Y1 ⟨rfl, hY1⟩
  rw [hY1]
  clear hY1 HSTP
  obtain ⟨mb, mcap, hmv, _, hmbl⟩ := (unhide HVY).form (by omega)
  have hpY := unhide HPY
  have p13 : Y.cell? ⟨po, 13, none⟩ = some (.bool false) := by unfold postObj at hpY; rw [rcell hpY]; rfl
  have p9 : Y.cell? ⟨po, 9, none⟩ = some (.slice (some ⟨mb, 0, none⟩) 1 mcap) := by unfold postObj at hpY; rw [rcell hpY, hmv]; rfl
  have hmb : Y.cell? ⟨mb, 0, none⟩ = some (.pointer (some ⟨r, 0, none⟩)) := by
    have := unhide HVY
    rw [hmv] at this
    rw [this.cellAt 0 (by omega)]; rfl
  clear hpY
  go_wp2_with fail
  refine wp_loop_rounds 2 ?_
  rw [rounds_succ]
  have HCP := hide (rcopy_any (unhide HRY) (by rw [(unhide H).sim.hc]; exact (unhide H).sim.ok) (by have := (unhide H).sim.len; omega) (by rw [(unhide H).sim.gone]; simp) (by rw [(unhide H).sim.pub]; simp) (by have := (unhide H).sim.tasks; omega))
  go_wp2_with fail
  refine (unhide HCP).mono ?_
  rintro e Z ⟨q, rt2, nv2, pv2, gv2, kv2, rfl, hr2, hb2⟩
  have hoZ := (hb2.block w.heap.size (lt_of_heap (unhide HOY))).trans (unhide HOY)
  have htZ := (hb2.block w1.heap.size (lt_of_heap (unhide HTY))).trans (unhide HTY)
  have o0 : Z.cell? ⟨w.heap.size, 0, none⟩ = some (.int .i64 2) := by rw [rcell hoZ]; rfl
  have o1 : Z.cell? ⟨w.heap.size, 1, none⟩ = some (.int .i64 o.on) := by rw [rcell hoZ]; rfl
  have o2 : Z.cell? ⟨w.heap.size, 2, none⟩ = some (.int .i64 o.a) := by rw [rcell hoZ]; rfl
  have o3 : Z.cell? ⟨w.heap.size, 3, none⟩ = some (.int .i64 o.b) := by rw [rcell hoZ]; rfl
  have o4 : Z.cell? ⟨w.heap.size, 4, none⟩ = some (.int .i64 o.c) := by rw [rcell hoZ]; rfl
  have o5 : Z.cell? ⟨w.heap.size, 5, none⟩ = some (.int .i32 o.v) := by rw [rcell hoZ]; rfl
  have o6 : Z.cell? ⟨w.heap.size, 6, none⟩ = some (.int .i64 o.te) := by rw [rcell hoZ]; rfl
  have o7 : Z.cell? ⟨w.heap.size, 7, none⟩ = some (.int .i64 o.tn) := by rw [rcell hoZ]; rfl
  have o8 : Z.cell? ⟨w.heap.size, 8, none⟩ = some (.int .i64 o.fs) := by rw [rcell hoZ]; rfl
  have o9 : Z.cell? ⟨w.heap.size, 9, none⟩ = some (.int .i64 o.fle) := by rw [rcell hoZ]; rfl
  have o10 : Z.cell? ⟨w.heap.size, 10, none⟩ = some (.int .i64 o.fla) := by rw [rcell hoZ]; rfl
  have o11 : Z.cell? ⟨w.heap.size, 11, none⟩ = some (.int .i64 o.fwi) := by rw [rcell hoZ]; rfl
  have o12 : Z.cell? ⟨w.heap.size, 12, none⟩ = some (.int .i64 o.fke) := by rw [rcell hoZ]; rfl
  have o13 : Z.cell? ⟨w.heap.size, 13, none⟩ = some (.int .i64 o.fqu) := by rw [rcell hoZ]; rfl
  have o14 : Z.cell? ⟨w.heap.size, 14, none⟩ = some (.slice o.fa o.fn o.fcap) := by rw [rcell hoZ]; rfl
  have t0 : Z.cell? ⟨w1.heap.size, 0, none⟩ = some (.int .i64 o.te) := by rw [rcell htZ]; rfl
  have t1 : Z.cell? ⟨w1.heap.size, 1, none⟩ = some (.int .i64 o.tn) := by rw [rcell htZ]; rfl
  have hokm : m.c.ok := by rw [(unhide H).sim.hc]; exact (unhide H).sim.ok
  have htime : 0 ≤ m.now ∧ m.now ≤ 100000 := by rw [(unhide H).sim.hnow]; exact (unhide H).sim.time
  have HDN := hide (done_ing hr2 hb2.size hokm (by have := (unhide H).sim.len; omega) (by rw [(unhide H).sim.gone]; simp) (by rw [(unhide H).sim.pub]; simp) (by have := (unhide H).sim.tasks; omega) (unhide H).sim.nums htime (by have := (unhide H).sim.used; have := (unhide H).sim.ubound; omega) { o with kd := 2 } hval o.te o.tn)
  dsimp only at HDN
  rw [unhide HCODE] at HDN
  have HB2 := hide hb2
  have hzY2 := hb2.size
  clear hoZ htZ hr2 hb2 HCP hokm htime
  go_wp2_with fail
  refine (unhide HDN).mono ?_
  rintro e U ⟨rfl, nv3, kv3, hr3, hb3⟩
  have hbYU : Below Y.heap.size Y U := (unhide HB2).trans hb3
  have hjU := (hbYU.block V.heap.size (lt_of_heap (unhide HJY))).trans (unhide HJY)
  have j0 : U.cell? ⟨V.heap.size, 0, none⟩ = some (.int .i64 0) := by rw [rcell hjU]; rfl
  have j1 : U.cell? ⟨V.heap.size, 1, none⟩ = some (.int .i64 0) := by rw [rcell hjU]; rfl
  have j2 : U.cell? ⟨V.heap.size, 2, none⟩ = some (.int .i64 0) := by rw [rcell hjU]; rfl
  have j3 : U.cell? ⟨V.heap.size, 3, none⟩ = some (.int .i64 0) := by rw [rcell hjU]; rfl
  have j4 : U.cell? ⟨V.heap.size, 4, none⟩ = some (.int .i64 0) := by rw [rcell hjU]; rfl
  have j5 : U.cell? ⟨V.heap.size, 5, none⟩ = some (.int .i64 0) := by rw [rcell hjU]; rfl
  have j6 : U.cell? ⟨V.heap.size, 6, none⟩ = some (.int .i64 0) := by rw [rcell hjU]; rfl
  have j7 : U.cell? ⟨V.heap.size, 7, none⟩ = some (.int .i64 0) := by rw [rcell hjU]; rfl
  have j8 : U.cell? ⟨V.heap.size, 8, none⟩ = some (.int .i64 0) := by rw [rcell hjU]; rfl
  have j9 : U.cell? ⟨V.heap.size, 9, none⟩ = some (.int .i64 0) := by rw [rcell hjU]; rfl
  have j10 : U.cell? ⟨V.heap.size, 10, none⟩ = some (.int .i64 0) := by rw [rcell hjU]; rfl
  have hjl := lt_of_heap hjU
  have HR3 := hide hr3
  have HBYU := hide hbYU
  have hm0 : 0 < 1 := by decide
  have hm1 : 0 + 1 ≤ maxLen := by simp [maxLen]
  have hm2 : (0 + 1) * 8 ≤ 140737488355328 := by omega
  clear hr3 hb3 hbYU hjU HDN o0 o1 o2 o3 o4 o5 o6 o7 o8 o9 o10 o11 o12 o13 o14 t0 t1
  go_wp2_with (first | (at_builtin; refine wpList_append_keep rfl _ _ 51 rfl 0 56 _ 1 8 Tryz.underlying51 Tryz.infoRefP rfl (by decide) (.slice none 0 0) 0 [] rfl (World.ownsRow_nil _ _ _ _) ⟨U.heap.size + 1, 0, none⟩ 1 1 [.pointer (some ⟨q, 0, none⟩)] rfl rfl (World.news_of_block (cs := #[.pointer (some ⟨q, 0, none⟩)]) (heap_second U _ _)) (by intro u hu; simp at hu; subst hu; rfl) hm0 hm1 hm2 (Nat.zero_le _) ?_; intro g gcap W4 hown4 hold4 hgrow4 hat4 hlt4; have HO4 := hide hown4; have HG4 := hide hgrow4; clear hown4 hold4 hgrow4 hat4) | go_in)
  have hb5 := ((unhide HBYU).alloc (unhide HBYU).size (.cells #[.int .i64 0, .int .i64 0, .int .i64 0, .int .i64 0, .int .i64 0, .int .i64 0, .int .i64 0, .int .i64 0, .int .i64 0, .int .i64 0, .int .i64 0] 64)).alloc (by have := (unhide HBYU).size; simp; omega) (.cells #[.pointer (some ⟨q, 0, none⟩)] 56)
  have hg4 : ((U.alloc (.cells #[.int .i64 0, .int .i64 0, .int .i64 0, .int .i64 0, .int .i64 0, .int .i64 0, .int .i64 0, .int .i64 0, .int .i64 0, .int .i64 0, .int .i64 0] 64)).alloc (.cells #[.pointer (some ⟨q, 0, none⟩)] 56)).grownBy W4 none := unhide HG4
  have hbYW : Below Y.heap.size Y W4 := hb5.grown hg4 hb5.size (fun k e => by cases e)
  have hbU : Below U.heap.size U ((U.alloc (.cells #[.int .i64 0, .int .i64 0, .int .i64 0, .int .i64 0, .int .i64 0, .int .i64 0, .int .i64 0, .int .i64 0, .int .i64 0, .int .i64 0, .int .i64 0] 64)).alloc (.cells #[.pointer (some ⟨q, 0, none⟩)] 56)) := (box2 U _ _).2.2.1
  have hbUW : Below U.heap.size U W4 := hbU.grown hg4 hbU.size (fun k e => by cases e)
  have hp4 := (hbYW.block po (lt_of_heap (unhide HPY))).trans (unhide HPY)
  have ho4 := (hbYW.block w.heap.size (lt_of_heap (unhide HOY))).trans (unhide HOY)
  have k9 : W4.cell? ⟨po, 9, none⟩ = some (.slice (some ⟨mb, 0, none⟩) 1 mcap) := by have hq := hp4; unfold postObj at hq; rw [rcell hq, hmv]; rfl
  have kf4 : ∀ j, W4.frozen? ⟨po, j, none⟩ = false := fun j => by have hq := hp4; unfold postObj at hq; exact rfree hq j
  have k0 : W4.cell? ⟨w.heap.size, 0, none⟩ = some (.int .i64 2) := by rw [rcell ho4]; rfl
  have hpo4 := lt_of_heap hp4
  have hnp : ¬ w.heap.size = po := by omega
  have hnp2 : ¬ po = w.heap.size := by omega
  have HP4 := hide hp4
  have HBYW := hide hbYW
  have HBUW := hide hbUW
  clear hb5 hg4 hbYW hbU hbUW hp4 ho4 j0 j1 j2 j3 j4 j5 j6 j7 j8 j9 j10 p13 p9 hmb
  rw [rounds_succ]
  go_wp2_with fail
  go_ret
  have hs4 : (W4.setCell ⟨po, 9, none⟩ (.slice (some ⟨g, 0, none⟩) 1 gcap)).heap[po]? = some (postObj x d c ct (.slice (some ⟨g, 0, none⟩) 1 gcap) ep) := by
    have hq := unhide HP4
    unfold postObj at hq ⊢
    exact rset (i := 9) hq _
  have hkp : Kept (fun k => k = po) W4 (W4.setCell ⟨po, 9, none⟩ (.slice (some ⟨g, 0, none⟩) 1 gcap)) := kept_set (Kept.refl _ _) rfl
  have hm4 := (unhide HMY).later (unhide HBYW)
  have hd4 := (unhide HDY).later (unhide HBYW)
  have hr4 := (unhide HR3).later (unhide HBUW)
  have hnt := not_po (unhide HP4)
  refine ⟨rfl, q, Y.heap.size, _, _, _, _, _, _, ⟨hs4, hm4.kept hkp (fun k hk e => ?_), hd4.kept hkp (fun k hk e => ?_), owns_kept (show W4.ownsRow 0 _ 1 _ 1 _ from unhide HO4) hkp (fun k hk e => ?_), hr4.kept hkp (fun k hk e => ?_), ?_, ?_⟩, ?_⟩
  · subst e
    rcases hk with rfl | rfl | hk | rfl | rfl
    · exact hnt _ _ (by decide) hm4.head rfl
    · exact hnt _ _ (by decide) hm4.set.head rfl
    · obtain ⟨cur, hc⟩ := owns_type hm4.set.trow hk; exact hnt _ _ (by decide) hc rfl
    · obtain ⟨es, cl, hb, _⟩ := hm4.set.live; have hh := unhide HP4; unfold postObj at hh; rw [hb] at hh; cases hh
    · have hh := unhide HP4; unfold postObj at hh; rw [hm4.set.gone] at hh; cases hh
  · subst e
    rcases hk with rfl | hk
    · exact hnt _ _ (by decide) hd4.head rfl
    · obtain ⟨cur, hc⟩ := owns_type hd4.row hk; exact hnt _ _ (by decide) hc rfl
  · subst e
    obtain ⟨cur, hc⟩ := owns_type (unhide HO4) hk; exact hnt _ _ (by decide) hc rfl
  · subst e
    rcases hk with rfl | hk | hk | hk | hk | hk
    · exact hnt _ _ (by decide) hr4.head rfl
    · obtain ⟨cur, hc⟩ := owns_type hr4.trow hk; exact hnt _ _ (by decide) hc rfl
    · obtain ⟨cur, hc⟩ := owns_type hr4.nrow hk; exact hnt _ _ (by decide) hc rfl
    · obtain ⟨cur, hc⟩ := owns_type hr4.prow hk; exact hnt _ _ (by decide) hc rfl
    · obtain ⟨cur, hc⟩ := owns_type hr4.grow hk; exact hnt _ _ (by decide) hc rfl
    · obtain ⟨cur, hc⟩ := owns_type hr4.krow hk; exact hnt _ _ (by decide) hc rfl
  · exact unhide HSIM
  · exact (ing_epoch m o.a o.b o.v).trans (unhide H).epo
  · exact (((unhide HKY).mono (fun _ _ h => .inl h)).trans (Kept.of_below (f := fun k => k = lb ∨ k = po) (unhide HBYW)) (fun _ _ h => h)).trans hkp (fun _ _ h => .inr h)

set_option maxRecDepth 8000 in
set_option maxHeartbeats 8000000 in
theorem changed_tick {w : World} {po x d r : Nat} {c : Cf} {ct tv mv fs : Value} {ep now : Int} {s lb gb : Nat} {L : LV} {B0 B1 : Nat} {m : RM} {rt nv pv gv kv : Value} (h : PostW w po x d r c ct tv mv fs ep now s lb gb L B0 B1 m rt nv pv gv kv) (o : Ops) (hn : -9223372036854775808 ≤ o.a ∧ o.a ≤ 9223372036854775807) :
    Calls Tryz.prog 19 #[.pointer (some ⟨po, 0, none⟩), .agg #[.int .i64 3, .int .i64 o.on, .int .i64 o.a, .int .i64 o.b, .int .i64 o.c, .int .i32 o.v, .int .i64 o.te, .int .i64 o.tn, .int .i64 o.fs, .int .i64 o.fle, .int .i64 o.fla, .int .i64 o.fwi, .int .i64 o.fke, .int .i64 o.fqu, .slice o.fa o.fn o.fcap]] w fun e w' => e = .returned (.bool true) ∧ ∃ r' B' mv' rt' nv' pv' gv' kv', PostW w' po x d r' c ct tv mv' fs ep (ptick now o.a).1 s lb gb L B0 B' (m.tick o.a).1 rt' nv' pv' gv' kv' ∧ Kept (fun k => k = x ∨ k = po) w w' := by
  have hpl := lt_of_heap h.head
  have HM := hide h.mill
  have hpn := h.po_x
  obtain ⟨hcode, hsim⟩ := h.sim.tick o.a
  have HSIM := hide hsim
  have HT := fun V hb => hide (token_any (w := V) c (show V.heap[po]? = some (postObj x d c ct mv ep) from ((hb : Below w.heap.size w V).block po hpl).trans h.head) { o with kd := 3 })
  dsimp only at HT
  have hb0 : Below w.heap.size w (w.alloc (.cells #[.int .i64 3, .int .i64 o.on, .int .i64 o.a, .int .i64 o.b, .int .i64 o.c, .int .i32 o.v, .int .i64 o.te, .int .i64 o.tn, .int .i64 o.fs, .int .i64 o.fle, .int .i64 o.fla, .int .i64 o.fwi, .int .i64 o.fke, .int .i64 o.fqu, .slice o.fa o.fn o.fcap] 39)) := (Below.refl _ _).alloc (Nat.le_refl _) _
  have HO0 := hide (rlast w (.cells #[.int .i64 3, .int .i64 o.on, .int .i64 o.a, .int .i64 o.b, .int .i64 o.c, .int .i32 o.v, .int .i64 o.te, .int .i64 o.tn, .int .i64 o.fs, .int .i64 o.fle, .int .i64 o.fla, .int .i64 o.fwi, .int .i64 o.fke, .int .i64 o.fqu, .slice o.fa o.fn o.fcap] 39))
  have hz0 := rsize w (.cells #[.int .i64 3, .int .i64 o.on, .int .i64 o.a, .int .i64 o.b, .int .i64 o.c, .int .i32 o.v, .int .i64 o.te, .int .i64 o.tn, .int .i64 o.fs, .int .i64 o.fle, .int .i64 o.fla, .int .i64 o.fwi, .int .i64 o.fke, .int .i64 o.fqu, .slice o.fa o.fn o.fcap] 39)
  have HT0 := HT _ hb0
  have H := hide h
  clear HT hsim
  go_enter Tryz.func19, Tryz.ntmps19
  go_wp2_with fail
  generalize (w.alloc (.cells #[.int .i64 3, .int .i64 o.on, .int .i64 o.a, .int .i64 o.b, .int .i64 o.c, .int .i32 o.v, .int .i64 o.te, .int .i64 o.tn, .int .i64 o.fs, .int .i64 o.fle, .int .i64 o.fla, .int .i64 o.fwi, .int .i64 o.fke, .int .i64 o.fqu, .slice o.fa o.fn o.fcap] 39)) = X0 at *
  refine (unhide HT0).mono ?_
  rintro e w1 ⟨rfl, hb1⟩
  have hw1 := hb0.trans (hb1.mono hb0.size)
  have Ha := (hb1.block w.heap.size (by omega)).trans (unhide HO0)
  have a0 : w1.cell? ⟨w.heap.size, 0, none⟩ = some (.int .i64 3) := by rw [rcell Ha]; rfl
  have a1 : w1.cell? ⟨w.heap.size, 1, none⟩ = some (.int .i64 o.on) := by rw [rcell Ha]; rfl
  have a2 : w1.cell? ⟨w.heap.size, 2, none⟩ = some (.int .i64 o.a) := by rw [rcell Ha]; rfl
  have a3 : w1.cell? ⟨w.heap.size, 3, none⟩ = some (.int .i64 o.b) := by rw [rcell Ha]; rfl
  have a4 : w1.cell? ⟨w.heap.size, 4, none⟩ = some (.int .i64 o.c) := by rw [rcell Ha]; rfl
  have a5 : w1.cell? ⟨w.heap.size, 5, none⟩ = some (.int .i32 o.v) := by rw [rcell Ha]; rfl
  have a6 : w1.cell? ⟨w.heap.size, 6, none⟩ = some (.int .i64 o.te) := by rw [rcell Ha]; rfl
  have a7 : w1.cell? ⟨w.heap.size, 7, none⟩ = some (.int .i64 o.tn) := by rw [rcell Ha]; rfl
  have a8 : w1.cell? ⟨w.heap.size, 8, none⟩ = some (.int .i64 o.fs) := by rw [rcell Ha]; rfl
  have a9 : w1.cell? ⟨w.heap.size, 9, none⟩ = some (.int .i64 o.fle) := by rw [rcell Ha]; rfl
  have a10 : w1.cell? ⟨w.heap.size, 10, none⟩ = some (.int .i64 o.fla) := by rw [rcell Ha]; rfl
  have a11 : w1.cell? ⟨w.heap.size, 11, none⟩ = some (.int .i64 o.fwi) := by rw [rcell Ha]; rfl
  have a12 : w1.cell? ⟨w.heap.size, 12, none⟩ = some (.int .i64 o.fke) := by rw [rcell Ha]; rfl
  have a13 : w1.cell? ⟨w.heap.size, 13, none⟩ = some (.int .i64 o.fqu) := by rw [rcell Ha]; rfl
  have a14 : w1.cell? ⟨w.heap.size, 14, none⟩ = some (.slice o.fa o.fn o.fcap) := by rw [rcell Ha]; rfl
  have af := fun j => rfree Ha j
  have hq1 := lt_of_heap Ha
  have HA := hide Ha
  have HW1 := hide hw1
  clear Ha hw1 hb1 hb0 HT0 HO0 hz0 h
  go_wp2_with fail
  have hs1 : ((w1.setCell ⟨w.heap.size, 6, none⟩ (.int .i64 o.te)).setCell ⟨w.heap.size, 7, none⟩ (.int .i64 o.tn)).heap[w.heap.size]? = some (.cells #[.int .i64 3, .int .i64 o.on, .int .i64 o.a, .int .i64 o.b, .int .i64 o.c, .int .i32 o.v, .int .i64 o.te, .int .i64 o.tn, .int .i64 o.fs, .int .i64 o.fle, .int .i64 o.fla, .int .i64 o.fwi, .int .i64 o.fke, .int .i64 o.fqu, .slice o.fa o.fn o.fcap] 39 (0, 0)) := rset (i := 7) (rset (i := 6) (unhide HA) _) _
  have hw1z := (unhide HW1).size
  have hwX : Below w.heap.size w (((w1.setCell ⟨w.heap.size, 6, none⟩ (.int .i64 o.te)).setCell ⟨w.heap.size, 7, none⟩ (.int .i64 o.tn)).alloc (.cells #[.int .i64 o.te, .int .i64 o.tn] 37)) := (((unhide HW1).setCell (p := ⟨w.heap.size, 6, none⟩) (Nat.le_refl _) _).setCell (p := ⟨w.heap.size, 7, none⟩) (Nat.le_refl _) _).alloc (by simpa [World.setCell] using hw1z) _
  have hsz : ((w1.setCell ⟨w.heap.size, 6, none⟩ (.int .i64 o.te)).setCell ⟨w.heap.size, 7, none⟩ (.int .i64 o.tn)).heap.size = w1.heap.size := by simp [World.setCell]
  have HOX := hide ((Below.heap_alloc _ (.cells #[.int .i64 o.te, .int .i64 o.tn] 37) _ (lt_of_heap hs1)).trans hs1)
  have htX := rlast ((w1.setCell ⟨w.heap.size, 6, none⟩ (.int .i64 o.te)).setCell ⟨w.heap.size, 7, none⟩ (.int .i64 o.tn)) (.cells #[.int .i64 o.te, .int .i64 o.tn] 37)
  rw [hsz] at htX
  have HTX := hide htX
  have hXz : (((w1.setCell ⟨w.heap.size, 6, none⟩ (.int .i64 o.te)).setCell ⟨w.heap.size, 7, none⟩ (.int .i64 o.tn)).alloc (.cells #[.int .i64 o.te, .int .i64 o.tn] 37)).heap.size = w1.heap.size + 1 := by rw [rsize, hsz]
  have h := unhide H
  have HCA := hide (called_tick ((unhide HM).later hwX) h.sim.time c ((hwX.block po hpl).trans h.head) hpn { o with kd := 3 } o.te o.tn)
  dsimp only at HCA
  have HWX := hide hwX
  have HXZ := hide hXz
  clear a0 a1 a2 a3 a4 a5 a6 a7 a8 a9 a10 a11 a12 a13 a14 af hs1 hsz htX hwX hXz h hw1z
  generalize (((w1.setCell ⟨w.heap.size, 6, none⟩ (.int .i64 o.te)).setCell ⟨w.heap.size, 7, none⟩ (.int .i64 o.tn)).alloc (.cells #[.int .i64 o.te, .int .i64 o.tn] 37)) = X at *
  obtain ⟨cd, hcd⟩ : ∃ cd, (ptick now o.a).2 = cd := ⟨_, rfl⟩
  have hcd13 : (cd == 13) = false := by rw [← hcd]; simp; exact ptick_13 _ _
  rw [hcd] at HCA hcode
  refine (unhide HCA).mono ?_
  rintro e V ⟨rfl, hmV, hkV⟩
  have HMV := hide hmV
  have HKV := hide hkV
  have HCODE := hide hcode
  have HCDE := hide hcd
  clear hmV hkV hcode hcd HCA
  have hkwV : Kept (fun k => k = x) w V := (Kept.of_below (unhide HWX)).trans (unhide HKV) (fun _ _ h => h)
  have hkwY : Kept (fun k => k = x) w (V.alloc (.cells #[.int .i64 0, .int .i64 0, .int .i64 0, .int .i64 0, .int .i64 0, .int .i64 0, .int .i64 0, .int .i64 0, .int .i64 0, .int .i64 0, .int .i64 0] 64)) := hkwV.alloc _
  have hVY : Below V.heap.size V (V.alloc (.cells #[.int .i64 0, .int .i64 0, .int .i64 0, .int .i64 0, .int .i64 0, .int .i64 0, .int .i64 0, .int .i64 0, .int .i64 0, .int .i64 0, .int .i64 0] 64)) := (Below.refl _ _).alloc (Nat.le_refl _) _
  have hap := (unhide H).apart_x
  have hpV := hkwV.heap (unhide H).head hpn
  have p1 : V.cell? ⟨po, 1, none⟩ = some (.pointer (some ⟨d, 0, none⟩)) := by unfold postObj at hpV; rw [rcell hpV]; rfl
  have hpVl := lt_of_heap hpV
  have HSTP := hide (stopped_any B0 d opS2 fs _ ((unhide H).disk.kept hkwY (fun k hk => hap k (.inl hk))))
  rw [show stoppedB opS2 = false from rfl] at HSTP
  have HDY := hide ((unhide H).disk.kept hkwY (fun k hk => hap k (.inl hk)))
  have HRY := hide ((unhide H).ref.kept hkwY (fun k hk => hap k (.inr (.inr hk))))
  have HVY := hide (owns_kept (unhide H).may hkwY (fun k hk => hap k (.inr (.inl hk))))
  have HMY := hide ((unhide HMV).later hVY)
  have HPY := hide (hkwY.heap (unhide H).head hpn)
  have HKY := hide hkwY
  have hlow := (unhide H).mill.lt
  have HOY := hide ((Below.heap_alloc _ (.cells #[.int .i64 0, .int .i64 0, .int .i64 0, .int .i64 0, .int .i64 0, .int .i64 0, .int .i64 0, .int .i64 0, .int .i64 0, .int .i64 0, .int .i64 0] 64) _ (lt_of_heap ((unhide HKV).heap (unhide HOX) (by omega)))).trans ((unhide HKV).heap (unhide HOX) (by omega)))
  have hw1z := (unhide HW1).size
  have HTY := hide ((Below.heap_alloc _ (.cells #[.int .i64 0, .int .i64 0, .int .i64 0, .int .i64 0, .int .i64 0, .int .i64 0, .int .i64 0, .int .i64 0, .int .i64 0, .int .i64 0, .int .i64 0] 64) _ (lt_of_heap ((unhide HKV).heap (unhide HTX) (by omega)))).trans ((unhide HKV).heap (unhide HTX) (by omega)))
  have HJY := hide (rlast V (.cells #[.int .i64 0, .int .i64 0, .int .i64 0, .int .i64 0, .int .i64 0, .int .i64 0, .int .i64 0, .int .i64 0, .int .i64 0, .int .i64 0, .int .i64 0] 64))
  have hVz : (V.alloc (.cells #[.int .i64 0, .int .i64 0, .int .i64 0, .int .i64 0, .int .i64 0, .int .i64 0, .int .i64 0, .int .i64 0, .int .i64 0, .int .i64 0, .int .i64 0] 64)).heap.size = V.heap.size + 1 := rsize _ _
  clear hkwV hkwY hVY hap hpV
  go_wp2_with fail
  have HVZ := hide hVz
  clear p1 hpVl hVz
  generalize (V.alloc (.cells #[.int .i64 0, .int .i64 0, .int .i64 0, .int .i64 0, .int .i64 0, .int .i64 0, .int .i64 0, .int .i64 0, .int .i64 0, .int .i64 0, .int .i64 0] 64)) = Y at *
  refine (unhide HSTP).mono ?_
  rintro e Y1 ⟨rfl, hY1⟩
  rw [hY1]
  clear hY1 HSTP
  obtain ⟨mb, mcap, hmv, _, hmbl⟩ := (unhide HVY).form (by omega)
  have hpY := unhide HPY
  have p13 : Y.cell? ⟨po, 13, none⟩ = some (.bool false) := by unfold postObj at hpY; rw [rcell hpY]; rfl
  have p9 : Y.cell? ⟨po, 9, none⟩ = some (.slice (some ⟨mb, 0, none⟩) 1 mcap) := by unfold postObj at hpY; rw [rcell hpY, hmv]; rfl
  have hmb : Y.cell? ⟨mb, 0, none⟩ = some (.pointer (some ⟨r, 0, none⟩)) := by
    have := unhide HVY
    rw [hmv] at this
    rw [this.cellAt 0 (by omega)]; rfl
  clear hpY
  go_wp2_with fail
  refine wp_loop_rounds 2 ?_
  rw [rounds_succ]
  have HCP := hide (rcopy_any (unhide HRY) (by rw [(unhide H).sim.hc]; exact (unhide H).sim.ok) (by have := (unhide H).sim.len; omega) (by rw [(unhide H).sim.gone]; simp) (by rw [(unhide H).sim.pub]; simp) (by have := (unhide H).sim.tasks; omega))
  go_wp2_with fail
  refine (unhide HCP).mono ?_
  rintro e Z ⟨q, rt2, nv2, pv2, gv2, kv2, rfl, hr2, hb2⟩
  have hoZ := (hb2.block w.heap.size (lt_of_heap (unhide HOY))).trans (unhide HOY)
  have htZ := (hb2.block w1.heap.size (lt_of_heap (unhide HTY))).trans (unhide HTY)
  have o0 : Z.cell? ⟨w.heap.size, 0, none⟩ = some (.int .i64 3) := by rw [rcell hoZ]; rfl
  have o1 : Z.cell? ⟨w.heap.size, 1, none⟩ = some (.int .i64 o.on) := by rw [rcell hoZ]; rfl
  have o2 : Z.cell? ⟨w.heap.size, 2, none⟩ = some (.int .i64 o.a) := by rw [rcell hoZ]; rfl
  have o3 : Z.cell? ⟨w.heap.size, 3, none⟩ = some (.int .i64 o.b) := by rw [rcell hoZ]; rfl
  have o4 : Z.cell? ⟨w.heap.size, 4, none⟩ = some (.int .i64 o.c) := by rw [rcell hoZ]; rfl
  have o5 : Z.cell? ⟨w.heap.size, 5, none⟩ = some (.int .i32 o.v) := by rw [rcell hoZ]; rfl
  have o6 : Z.cell? ⟨w.heap.size, 6, none⟩ = some (.int .i64 o.te) := by rw [rcell hoZ]; rfl
  have o7 : Z.cell? ⟨w.heap.size, 7, none⟩ = some (.int .i64 o.tn) := by rw [rcell hoZ]; rfl
  have o8 : Z.cell? ⟨w.heap.size, 8, none⟩ = some (.int .i64 o.fs) := by rw [rcell hoZ]; rfl
  have o9 : Z.cell? ⟨w.heap.size, 9, none⟩ = some (.int .i64 o.fle) := by rw [rcell hoZ]; rfl
  have o10 : Z.cell? ⟨w.heap.size, 10, none⟩ = some (.int .i64 o.fla) := by rw [rcell hoZ]; rfl
  have o11 : Z.cell? ⟨w.heap.size, 11, none⟩ = some (.int .i64 o.fwi) := by rw [rcell hoZ]; rfl
  have o12 : Z.cell? ⟨w.heap.size, 12, none⟩ = some (.int .i64 o.fke) := by rw [rcell hoZ]; rfl
  have o13 : Z.cell? ⟨w.heap.size, 13, none⟩ = some (.int .i64 o.fqu) := by rw [rcell hoZ]; rfl
  have o14 : Z.cell? ⟨w.heap.size, 14, none⟩ = some (.slice o.fa o.fn o.fcap) := by rw [rcell hoZ]; rfl
  have t0 : Z.cell? ⟨w1.heap.size, 0, none⟩ = some (.int .i64 o.te) := by rw [rcell htZ]; rfl
  have t1 : Z.cell? ⟨w1.heap.size, 1, none⟩ = some (.int .i64 o.tn) := by rw [rcell htZ]; rfl
  have hokm : m.c.ok := by rw [(unhide H).sim.hc]; exact (unhide H).sim.ok
  have htime : 0 ≤ m.now ∧ m.now ≤ 100000 := by rw [(unhide H).sim.hnow]; exact (unhide H).sim.time
  have HDN := hide (done_tick hr2 hb2.size hokm (by have := (unhide H).sim.len; omega) (by rw [(unhide H).sim.gone]; simp) (by rw [(unhide H).sim.pub]; simp) (by have := (unhide H).sim.tasks; omega) (unhide H).sim.nums htime (unhide H).sim.free { o with kd := 3 } hn o.te o.tn)
  dsimp only at HDN
  rw [unhide HCODE] at HDN
  have HB2 := hide hb2
  have hzY2 := hb2.size
  clear hoZ htZ hr2 hb2 HCP hokm htime
  go_wp2_with fail
  refine (unhide HDN).mono ?_
  rintro e U ⟨rfl, nv3, kv3, hr3, hb3⟩
  have hbYU : Below Y.heap.size Y U := (unhide HB2).trans hb3
  have hjU := (hbYU.block V.heap.size (lt_of_heap (unhide HJY))).trans (unhide HJY)
  have j0 : U.cell? ⟨V.heap.size, 0, none⟩ = some (.int .i64 0) := by rw [rcell hjU]; rfl
  have j1 : U.cell? ⟨V.heap.size, 1, none⟩ = some (.int .i64 0) := by rw [rcell hjU]; rfl
  have j2 : U.cell? ⟨V.heap.size, 2, none⟩ = some (.int .i64 0) := by rw [rcell hjU]; rfl
  have j3 : U.cell? ⟨V.heap.size, 3, none⟩ = some (.int .i64 0) := by rw [rcell hjU]; rfl
  have j4 : U.cell? ⟨V.heap.size, 4, none⟩ = some (.int .i64 0) := by rw [rcell hjU]; rfl
  have j5 : U.cell? ⟨V.heap.size, 5, none⟩ = some (.int .i64 0) := by rw [rcell hjU]; rfl
  have j6 : U.cell? ⟨V.heap.size, 6, none⟩ = some (.int .i64 0) := by rw [rcell hjU]; rfl
  have j7 : U.cell? ⟨V.heap.size, 7, none⟩ = some (.int .i64 0) := by rw [rcell hjU]; rfl
  have j8 : U.cell? ⟨V.heap.size, 8, none⟩ = some (.int .i64 0) := by rw [rcell hjU]; rfl
  have j9 : U.cell? ⟨V.heap.size, 9, none⟩ = some (.int .i64 0) := by rw [rcell hjU]; rfl
  have j10 : U.cell? ⟨V.heap.size, 10, none⟩ = some (.int .i64 0) := by rw [rcell hjU]; rfl
  have hjl := lt_of_heap hjU
  have HR3 := hide hr3
  have HBYU := hide hbYU
  have hm0 : 0 < 1 := by decide
  have hm1 : 0 + 1 ≤ maxLen := by simp [maxLen]
  have hm2 : (0 + 1) * 8 ≤ 140737488355328 := by omega
  clear hr3 hb3 hbYU hjU HDN o0 o1 o2 o3 o4 o5 o6 o7 o8 o9 o10 o11 o12 o13 o14 t0 t1
  go_wp2_with (first | (at_builtin; refine wpList_append_keep rfl _ _ 51 rfl 0 56 _ 1 8 Tryz.underlying51 Tryz.infoRefP rfl (by decide) (.slice none 0 0) 0 [] rfl (World.ownsRow_nil _ _ _ _) ⟨U.heap.size + 1, 0, none⟩ 1 1 [.pointer (some ⟨q, 0, none⟩)] rfl rfl (World.news_of_block (cs := #[.pointer (some ⟨q, 0, none⟩)]) (heap_second U _ _)) (by intro u hu; simp at hu; subst hu; rfl) hm0 hm1 hm2 (Nat.zero_le _) ?_; intro g gcap W4 hown4 hold4 hgrow4 hat4 hlt4; have HO4 := hide hown4; have HG4 := hide hgrow4; clear hown4 hold4 hgrow4 hat4) | go_in)
  have hb5 := ((unhide HBYU).alloc (unhide HBYU).size (.cells #[.int .i64 0, .int .i64 0, .int .i64 0, .int .i64 0, .int .i64 0, .int .i64 0, .int .i64 0, .int .i64 0, .int .i64 0, .int .i64 0, .int .i64 0] 64)).alloc (by have := (unhide HBYU).size; simp; omega) (.cells #[.pointer (some ⟨q, 0, none⟩)] 56)
  have hg4 : ((U.alloc (.cells #[.int .i64 0, .int .i64 0, .int .i64 0, .int .i64 0, .int .i64 0, .int .i64 0, .int .i64 0, .int .i64 0, .int .i64 0, .int .i64 0, .int .i64 0] 64)).alloc (.cells #[.pointer (some ⟨q, 0, none⟩)] 56)).grownBy W4 none := unhide HG4
  have hbYW : Below Y.heap.size Y W4 := hb5.grown hg4 hb5.size (fun k e => by cases e)
  have hbU : Below U.heap.size U ((U.alloc (.cells #[.int .i64 0, .int .i64 0, .int .i64 0, .int .i64 0, .int .i64 0, .int .i64 0, .int .i64 0, .int .i64 0, .int .i64 0, .int .i64 0, .int .i64 0] 64)).alloc (.cells #[.pointer (some ⟨q, 0, none⟩)] 56)) := (box2 U _ _).2.2.1
  have hbUW : Below U.heap.size U W4 := hbU.grown hg4 hbU.size (fun k e => by cases e)
  have hp4 := (hbYW.block po (lt_of_heap (unhide HPY))).trans (unhide HPY)
  have ho4 := (hbYW.block w.heap.size (lt_of_heap (unhide HOY))).trans (unhide HOY)
  have k9 : W4.cell? ⟨po, 9, none⟩ = some (.slice (some ⟨mb, 0, none⟩) 1 mcap) := by have hq := hp4; unfold postObj at hq; rw [rcell hq, hmv]; rfl
  have kf4 : ∀ j, W4.frozen? ⟨po, j, none⟩ = false := fun j => by have hq := hp4; unfold postObj at hq; exact rfree hq j
  have k0 : W4.cell? ⟨w.heap.size, 0, none⟩ = some (.int .i64 3) := by rw [rcell ho4]; rfl
  have hpo4 := lt_of_heap hp4
  have hnp : ¬ w.heap.size = po := by omega
  have hnp2 : ¬ po = w.heap.size := by omega
  have HP4 := hide hp4
  have HBYW := hide hbYW
  have HBUW := hide hbUW
  clear hb5 hg4 hbYW hbU hbUW hp4 ho4 j0 j1 j2 j3 j4 j5 j6 j7 j8 j9 j10 p13 p9 hmb
  rw [rounds_succ]
  go_wp2_with fail
  go_ret
  have hs4 : (W4.setCell ⟨po, 9, none⟩ (.slice (some ⟨g, 0, none⟩) 1 gcap)).heap[po]? = some (postObj x d c ct (.slice (some ⟨g, 0, none⟩) 1 gcap) ep) := by
    have hq := unhide HP4
    unfold postObj at hq ⊢
    exact rset (i := 9) hq _
  have hkp : Kept (fun k => k = po) W4 (W4.setCell ⟨po, 9, none⟩ (.slice (some ⟨g, 0, none⟩) 1 gcap)) := kept_set (Kept.refl _ _) rfl
  have hm4 := (unhide HMY).later (unhide HBYW)
  have hd4 := (unhide HDY).later (unhide HBYW)
  have hr4 := (unhide HR3).later (unhide HBUW)
  have hnt := not_po (unhide HP4)
  refine ⟨rfl, q, Y.heap.size, _, _, _, _, _, _, ⟨hs4, hm4.kept hkp (fun k hk e => ?_), hd4.kept hkp (fun k hk e => ?_), owns_kept (show W4.ownsRow 0 _ 1 _ 1 _ from unhide HO4) hkp (fun k hk e => ?_), hr4.kept hkp (fun k hk e => ?_), ?_, ?_⟩, ?_⟩
  · subst e
    rcases hk with rfl | rfl | hk | rfl | rfl
    · exact hnt _ _ (by decide) hm4.head rfl
    · exact hnt _ _ (by decide) hm4.set.head rfl
    · obtain ⟨cur, hc⟩ := owns_type hm4.set.trow hk; exact hnt _ _ (by decide) hc rfl
    · obtain ⟨es, cl, hb, _⟩ := hm4.set.live; have hh := unhide HP4; unfold postObj at hh; rw [hb] at hh; cases hh
    · have hh := unhide HP4; unfold postObj at hh; rw [hm4.set.gone] at hh; cases hh
  · subst e
    rcases hk with rfl | hk
    · exact hnt _ _ (by decide) hd4.head rfl
    · obtain ⟨cur, hc⟩ := owns_type hd4.row hk; exact hnt _ _ (by decide) hc rfl
  · subst e
    obtain ⟨cur, hc⟩ := owns_type (unhide HO4) hk; exact hnt _ _ (by decide) hc rfl
  · subst e
    rcases hk with rfl | hk | hk | hk | hk | hk
    · exact hnt _ _ (by decide) hr4.head rfl
    · obtain ⟨cur, hc⟩ := owns_type hr4.trow hk; exact hnt _ _ (by decide) hc rfl
    · obtain ⟨cur, hc⟩ := owns_type hr4.nrow hk; exact hnt _ _ (by decide) hc rfl
    · obtain ⟨cur, hc⟩ := owns_type hr4.prow hk; exact hnt _ _ (by decide) hc rfl
    · obtain ⟨cur, hc⟩ := owns_type hr4.grow hk; exact hnt _ _ (by decide) hc rfl
    · obtain ⟨cur, hc⟩ := owns_type hr4.krow hk; exact hnt _ _ (by decide) hc rfl
  · exact unhide HSIM
  · exact (tick_epoch m o.a).trans (unhide H).epo
  · exact (((unhide HKY).mono (fun _ _ h => .inl h)).trans (Kept.of_below (f := fun k => k = x ∨ k = po) (unhide HBYW)) (fun _ _ h => h)).trans hkp (fun _ _ h => .inr h)
end Go.Proofs.YtgadceofpbfleaaGreat
