/- Walk: told, the other kinds. -/
import Derived.Test.YtndhpgciopcncaaShelf4
namespace Go.Proofs.Ytndhpgciopcncaa
open Go.RowKit
set_option linter.unusedVariables false

theorem leftOf_ok {keep : Int} {f : FS} {N : Nat} (h0 : f.safe ≤ f.data.size) (hN : f.data.size ≤ N) : (leftOf keep f).safe ≤ (leftOf keep f).data.size ∧ (leftOf keep f).data.size ≤ N := by
  refine ⟨Nat.le_refl _, ?_⟩
  show (f.data.extract 0 _).size ≤ N
  rw [size_cut]; omega
theorem DOk_crashed {S : DS} {N : Nat} (h : DOk S N) (keep : Int) : DOk (crashed S keep) N := by
  obtain ⟨_, _, h3, h4⟩ := h
  refine ⟨show (-1 : Int) ≤ -1 by omega, show (-1 : Int) ≤ 9223372036854775807 by omega, by simpa [crashed] using h3, fun f hf => ?_⟩
  simp only [crashed, List.mem_map] at hf
  obtain ⟨g, hg, rfl⟩ := hf
  exact leftOf_ok (h4 g hg).1 (h4 g hg).2

section
variable {B X N K pw : Nat} {w : World} {its : List Item} {kn : List (Value × ByteArray)} {lv nv mv : Value} {it : Item}

set_option maxHeartbeats 4000000 in
theorem told_stopped (h : Shelf B X N w pw its kn lv nv mv) (hN : N ≤ 1000000000000) (i : Nat) (hi : its[i]? = some it) (on a : Int) (n s : ByteArray) :
    Calls Try.prog 22 #[.pointer (some ⟨pw, 0, none⟩), .agg #[.pointer (some ⟨it.p, 0, none⟩), .pointer (some ⟨it.q, 0, none⟩)], .agg #[.int .i64 9, .int .i64 on, .int .i64 a, .string n, .string s]] w fun e w' => e = .returned (.bool true) ∧ Below w.heap.size w w' := by
  have a0 := h.items i it hi
  obtain ⟨b1, b2, bb, bz⟩ := two_boxes w (.cells #[.pointer (some ⟨it.p, 0, none⟩), .pointer (some ⟨it.q, 0, none⟩)] 48) (.cells #[.int .i64 9, .int .i64 on, .int .i64 a, .string n, .string s] 39)
  have HR := hide (stopped_any B it.p it.S it.fs _ (a0.d.later bb))
  have HRR := hide (rstopped_any B it.q it.S it.gs _ (a0.r.later bb))
  have BB := hide bb
  clear b1 b2 bz bb
  go_enter Try.func22, Try.ntmps22
  go_wp2_with (first
    | (go_at_call 40; refine (unhide HR).mono ?_; rintro e w1 ⟨rfl, hw1⟩; subst hw1)
    | (go_at_call 41; refine (unhide HRR).mono ?_; rintro e w3 ⟨rfl, hw3⟩; subst hw3))
  go_ret
  exact ⟨dret_bool (by simp), unhide BB⟩

set_option maxHeartbeats 2000000 in
theorem told_other (kd on a : Int) (n s : ByteArray) (hk : ¬ (6 ≤ kd ∧ kd ≤ 10)) (it : Item) (w : World) :
    Calls Try.prog 22 #[.pointer (some ⟨pw, 0, none⟩), .agg #[.pointer (some ⟨it.p, 0, none⟩), .pointer (some ⟨it.q, 0, none⟩)], .agg #[.int .i64 kd, .int .i64 on, .int .i64 a, .string n, .string s]] w fun e w' => e = .returned (.bool true) ∧ Below w.heap.size w w' := by
  obtain ⟨b1, b2, bb, bz⟩ := two_boxes w (.cells #[.pointer (some ⟨it.p, 0, none⟩), .pointer (some ⟨it.q, 0, none⟩)] 48) (.cells #[.int .i64 kd, .int .i64 on, .int .i64 a, .string n, .string s] 39)
  have k6 : (kd == 6) = false := beq_eq_false_iff_ne.2 (by omega)
  have k7 : (kd == 7) = false := beq_eq_false_iff_ne.2 (by omega)
  have k8 : (kd == 8) = false := beq_eq_false_iff_ne.2 (by omega)
  have k9 : (kd == 9) = false := beq_eq_false_iff_ne.2 (by omega)
  have k10 : (kd == 10) = false := beq_eq_false_iff_ne.2 (by omega)
  have BB := hide bb
  clear b1 b2 bz bb hk
  go_enter Try.func22, Try.ntmps22
  go_wp2
  go_ret
  exact ⟨rfl, unhide BB⟩

set_option maxHeartbeats 4000000 in
theorem told_stop (h : Shelf B X N w pw its kn lv nv mv) (hN : N ≤ 1000000000000) (i : Nat) (hi : its[i]? = some it) (on a : Int) (ha : a ≤ 9223372036854775807) (n s : ByteArray) :
    Calls Try.prog 22 #[.pointer (some ⟨pw, 0, none⟩), .agg #[.pointer (some ⟨it.p, 0, none⟩), .pointer (some ⟨it.q, 0, none⟩)], .agg #[.int .i64 8, .int .i64 on, .int .i64 a, .string n, .string s]] w fun e w' => e = .returned (.bool true) ∧ ∃ its', Shelf B w'.heap.size N w' pw its' kn lv nv mv ∧ its'.length = its.length ∧ Below B w w' := by
  have a0 := h.items i it hi
  obtain ⟨b1, b2, bb, bz⟩ := two_boxes w (.cells #[.pointer (some ⟨it.p, 0, none⟩), .pointer (some ⟨it.q, 0, none⟩)] 48) (.cells #[.int .i64 8, .int .i64 on, .int .i64 a, .string n, .string s] 39)
  have hs := h.later (bb.mono h.XW)
  have a1 := hs.items i it hi
  have HR := hide (stop_any B it.p it.S it.fs a _ a1.d)
  have hz : w.heap.size ≠ w.heap.size + 1 := by omega
  generalize hW : ((w.alloc (.cells #[.pointer (some ⟨it.p, 0, none⟩), .pointer (some ⟨it.q, 0, none⟩)] 48)).alloc (.cells #[.int .i64 8, .int .i64 on, .int .i64 a, .string n, .string s] 39)) = W at *
  have HW := hide hW
  have B1 := hide b1
  have B2 := hide b2
  have BB := hide bb
  have HA1 := hide a1
  have HA0 := hide a0
  have HS := hide hs
  have HH := hide h
  clear hW b1 b2 bz bb a1 a0 hs h
  go_enter Try.func22, Try.ntmps22
  go_wp2_with fail
  rw [unhide HW]
  refine (unhide HR).mono ?_
  rintro e W1 ⟨rfl, d1, k1⟩
  have e1 := box_kept (unhide HA1).d k1 (unhide B1) (by decide) (by decide)
  have e2 := box_kept (unhide HA1).d k1 (unhide B2) (by decide) (by decide)
  have y1 : W1.cell? ⟨w.heap.size, 1, none⟩ = some (.pointer (some ⟨it.q, 0, none⟩)) := by rw [dcell e1]; rfl
  have y2 : W1.cell? ⟨w.heap.size + 1, 2, none⟩ = some (.int .i64 a) := by rw [dcell e2]; rfl
  have r1 := (unhide HA1).r.kept k1 (fun k hk hf => foot_apart (unhide HA1).d (unhide HA1).r (by decide) (by decide) (by decide) (by decide) hf hk)
  have HRR := hide (rstop_any B it.q it.S it.gs a _ r1)
  clear e1 e2
  go_wp2_with (go_at_call 39; refine (unhide HRR).mono ?_; rintro e W2 ⟨rfl, d2, k2⟩)
  go_ret
  have d1' := d1.kept k2 (fun k hk hf => foot_apart d1 r1 (by decide) (by decide) (by decide) (by decide) hk hf)
  have hk12 : Kept (foot2 it) W W2 := (k1.mono (fun _ _ hh => .inl hh)).trans (k2.mono (g := foot2 it) (fun _ _ hh => .inr hh)) (fun _ _ hh => hh)
  have hok : DOk (stopAt it.S a) N := by
    obtain ⟨o1, o2, o3, o4⟩ := (unhide HA1).ok
    unfold stopAt
    split
    · exact ⟨o1, o2, o3, o4⟩
    · refine ⟨?_, ?_, o3, o4⟩ <;> (dsimp only; split <;> omega)
  have hup := (unhide HS).update hi hk12 d1' d2 (fun k hk => .inl hk) (fun k hk => .inl hk) (Nat.le_refl N) hok
  refine ⟨rfl, _, hup, by simp, ((unhide BB).mono (Nat.le_trans (unhide HH).BX (unhide HH).XW)).trans (hk12.below (Nat.le_trans (unhide HS).BX (unhide HS).XW) (fun k hk => ?_))⟩
  rcases hk with hk | hk
  · rcases hk with rfl | hk
    · exact (unhide HA1).d.base
    · exact ((unhide HA1).d.row.lt k hk).1
  · rcases hk with rfl | hk
    · exact (unhide HA1).r.base
    · exact ((unhide HA1).r.row.lt k hk).1

set_option maxHeartbeats 4000000 in
theorem told_names (h : Shelf B X N w pw its kn lv nv mv) (hN : N ≤ 1000000000000) (hkl : kn.length ≤ 1000000000) (hil : its.length ≤ 1000000000) (i : Nat) (hi : its[i]? = some it) (on a : Int) (n s : ByteArray) :
    Calls Try.prog 22 #[.pointer (some ⟨pw, 0, none⟩), .agg #[.pointer (some ⟨it.p, 0, none⟩), .pointer (some ⟨it.q, 0, none⟩)], .agg #[.int .i64 7, .int .i64 on, .int .i64 a, .string n, .string s]] w fun e w' => e = .returned (.bool true) ∧ ∃ kn' nv' mv', Shelf B w'.heap.size N w' pw its kn' lv nv' mv' ∧ kn'.length = kn.length + 4 ∧ (∀ x ∈ kn', x ∈ kn ∨ ∀ a n cap, x.1 = .slice a n cap → n ≤ N + 3) ∧ Below B w w' := by
  have a0 := h.items i it hi
  obtain ⟨b1, b2, bb, bz⟩ := two_boxes w (.cells #[.pointer (some ⟨it.p, 0, none⟩), .pointer (some ⟨it.q, 0, none⟩)] 48) (.cells #[.int .i64 7, .int .i64 on, .int .i64 a, .string n, .string s] 39)
  have hs := h.later (bb.mono h.XW)
  have a1 := hs.items i it hi
  have HR := hide (names_any B it.p it.S it.fs _ N (by omega) a1.ok.2.2.1 a1.d)
  generalize hW : ((w.alloc (.cells #[.pointer (some ⟨it.p, 0, none⟩), .pointer (some ⟨it.q, 0, none⟩)] 48)).alloc (.cells #[.int .i64 7, .int .i64 on, .int .i64 a, .string n, .string s] 39)) = W at *
  have HW := hide hW
  have B1 := hide b1
  have B2 := hide b2
  have BB := hide bb
  have HA1 := hide a1
  have HA0 := hide a0
  have HS := hide hs
  have HH := hide h
  have hWz : W.heap.size = w.heap.size + 2 := bz
  have HWZ := hide hWz
  clear hW b1 b2 bz bb a1 a0 hs h hWz
  go_enter Try.func22, Try.ntmps22
  go_wp2_with fail
  rw [unhide HW]
  refine (unhide HR).mono ?_
  rintro e W1 ⟨v1, rfl, o1, k1⟩
  obtain ⟨av1, cv1, rfl⟩ := owns_slice o1
  have r1 := (unhide HA1).r.later k1
  have HRR := hide (rnames_any B it.q it.S it.gs _ N (by omega) (unhide HA1).ok.2.2.1 r1)
  have hz1 := k1.size
  have e1 := (k1.block w.heap.size (by have := unhide HWZ; omega)).trans (unhide B1)
  have y1 : W1.cell? ⟨w.heap.size, 1, none⟩ = some (.pointer (some ⟨it.q, 0, none⟩)) := by rw [dcell e1]; rfl
  clear e1
  go_wp2_with fail
  refine (unhide HRR).mono ?_
  rintro e W2 ⟨v2, rfl, o2, k2⟩
  obtain ⟨av2, cv2, rfl⟩ := owns_slice o2
  have o1' := owns_below o1 k2 (ownLt_of o1) (Nat.le_refl _)
  have hl2 : (namesOf it.S).length ≤ N := by
    have := (namesTo_sorted it.S.files it.S.files.length (Nat.le_refl _)).2
    have := (unhide HA1).ok.2.2.1
    unfold namesOf; omega
  have hXW : X ≤ W.heap.size := (unhide HS).XW
  have hsW2 : Shelf B X N W2 pw its kn lv nv mv := ((unhide HS).later (k1.mono hXW)).later (k2.mono (Nat.le_trans hXW hz1))
  have O1 := hide (owns_base o1' (show X ≤ W.heap.size from hXW))
  have O1c : ∀ j, j < (namesOf it.S).length → ∃ g x, av1 = some ⟨g, 0, none⟩ ∧ W2.cell? ⟨g, j, none⟩ = some (.string x) ∧ (namesOf it.S)[j]? = some x := fun j hj => by
    obtain ⟨g, cc, hg, _, _⟩ := o1'.form (by omega)
    injection hg with hg1 hg2 hg3
    subst hg1
    obtain ⟨x, hx⟩ := get_of_lt' hj
    exact ⟨g, x, rfl, by rw [o1'.cellAt _ (by omega)]; exact nmCells_get hx, hx⟩
  have O2c : ∀ j, j < (namesOf it.S).length → ∃ g x, av2 = some ⟨g, 0, none⟩ ∧ W2.cell? ⟨g, j, none⟩ = some (.string x) ∧ (namesOf it.S)[j]? = some x := fun j hj => by
    obtain ⟨g, cc, hg, _, _⟩ := o2.form (by omega)
    injection hg with hg1 hg2 hg3
    subst hg1
    obtain ⟨x, hx⟩ := get_of_lt' hj
    exact ⟨g, x, rfl, by rw [o2.cellAt _ (by omega)]; exact nmCells_get hx, hx⟩
  have HSW := hide hsW2
  have HO1 := hide O1c
  have HO2 := hide O2c
  have HB12 := hide ((((unhide BB).mono (Nat.le_trans (unhide HH).BX (unhide HH).XW)).trans (k1.mono (Nat.le_trans (unhide HH).BX (Nat.le_trans (unhide HH).XW (unhide BB).size)))).trans (k2.mono (Nat.le_trans (Nat.le_trans (unhide HH).BX (Nat.le_trans (unhide HH).XW (unhide BB).size)) hz1)))
  clear o1 o2 o1' O1c O2c hsW2 y1 r1 k1 k2
  go_wp2_with fail
  go_loopw [13, 14] (fun x y wr => ∃ (j : Nat), j ≤ (namesOf it.S).length ∧ x = .bool true ∧ y = .int .i64 j ∧ ∃ nq, wr = W2.drewN nq) (fun _ y _ => (namesOf it.S).length - (intOf y).toNat)
  case atStart => exact ⟨0, Nat.zero_le _, rfl, rfl, 0, rfl⟩
  case round =>
    obtain ⟨j, hj, rfl, rfl, nq0, rfl⟩ := hrel
    by_cases hjl : j < (namesOf it.S).length
    · obtain ⟨g1, x1, rfl, z1, hx1⟩ := unhide HO1 j hjl
      obtain ⟨g2, x2, rfl, z2, hx2⟩ := unhide HO2 j hjl
      rw [hx1] at hx2
      cases hx2
      have hjn : (j : Int) < (namesOf it.S).length := by omega
      clear hx1
      go_wp2_with fail
      go_quiet (fail)
      go_wp2_with fail
      exact ⟨⟨j + 1, by omega, rfl, by go_num, _, rfl⟩, by simp [intOf]; omega⟩
    · have HK := hide (keeps_any ((unhide HSW).later (w' := W2.drewN nq0) ⟨rfl, rfl, rfl, Nat.le_refl _, fun _ _ => rfl⟩) (namesOf it.S) _ (owns_drewN (unhide O1)) hkl (by omega))
      go_wp2_with (go_at_call 37; refine (unhide HK).mono ?_; rintro e W3 ⟨rfl, nv', mv', four, q1, q2, q3, q4⟩)
      go_ret
      refine ⟨rfl, _, _, _, q1, by simp [q2], fun x hx => ?_, (unhide HB12).trans ((below_drewN (Below.refl _ _) nq0).trans q4)⟩
      rcases List.mem_append.1 hx with hx | hx
      · exact .inl hx
      · exact .inr (fun a n cap e => by have := q3 x hx a n cap e; omega)

set_option maxHeartbeats 4000000 in
theorem told_crash (h : Shelf B X N w pw its kn lv nv mv) (hN : N ≤ 1000000000000) (hkl : kn.length ≤ 1000000000) (hil : its.length ≤ 1000000000) (i : Nat) (hi : its[i]? = some it) (on a : Int) (n s : ByteArray) :
    Calls Try.prog 22 #[.pointer (some ⟨pw, 0, none⟩), .agg #[.pointer (some ⟨it.p, 0, none⟩), .pointer (some ⟨it.q, 0, none⟩)], .agg #[.int .i64 10, .int .i64 on, .int .i64 a, .string n, .string s]] w fun e w' => e = .returned (.bool true) ∧ ∃ its' lv', Shelf B w'.heap.size N w' pw its' kn lv' nv mv ∧ its'.length = its.length + 1 ∧ Below B w w' := by
  have a0 := h.items i it hi
  obtain ⟨b1, b2, bb, bz⟩ := two_boxes w (.cells #[.pointer (some ⟨it.p, 0, none⟩), .pointer (some ⟨it.q, 0, none⟩)] 48) (.cells #[.int .i64 10, .int .i64 on, .int .i64 a, .string n, .string s] 39)
  have hs := h.later (bb.mono h.XW)
  have a1 := hs.items i it hi
  have HR := hide (crash_any B it.p it.S it.fs a _ N (by omega) a1.ok (Nat.le_trans hs.BX hs.XW) a1.d)
  obtain ⟨alv, clv, hlv⟩ := owns_slice h.lrow
  subst hlv
  generalize hW : ((w.alloc (.cells #[.pointer (some ⟨it.p, 0, none⟩), .pointer (some ⟨it.q, 0, none⟩)] 48)).alloc (.cells #[.int .i64 10, .int .i64 on, .int .i64 a, .string n, .string s] 39)) = W at *
  have HW := hide hW
  have B1 := hide b1
  have B2 := hide b2
  have BB := hide bb
  have HA1 := hide a1
  have HA0 := hide a0
  have HS := hide hs
  have HH := hide h
  have hWz : W.heap.size = w.heap.size + 2 := bz
  have HWZ := hide hWz
  clear hW b1 b2 bz bb a1 a0 hs h hWz
  go_enter Try.func22, Try.ntmps22
  go_wp2_with fail
  rw [unhide HW]
  refine (unhide HR).mono ?_
  rintro e W1 ⟨rfl, fs1, d1, k1, lt1, f1⟩
  have r1 := (unhide HA1).r.later k1
  have hz1 := k1.size
  have HRR := hide (rcrash_any B it.q it.S it.gs a _ N (by omega) (unhide HA1).ok (Nat.le_trans (Nat.le_trans (unhide HS).BX (unhide HS).XW) hz1) r1)
  have e1 := (k1.block w.heap.size (by have := unhide HWZ; omega)).trans (unhide B1)
  have e2 := (k1.block (w.heap.size + 1) (by have := unhide HWZ; omega)).trans (unhide B2)
  have y1 : W1.cell? ⟨w.heap.size, 1, none⟩ = some (.pointer (some ⟨it.q, 0, none⟩)) := by rw [dcell e1]; rfl
  have y2 : W1.cell? ⟨w.heap.size + 1, 2, none⟩ = some (.int .i64 a) := by rw [dcell e2]; rfl
  clear e1 e2
  go_wp2_with fail
  refine (unhide HRR).mono ?_
  rintro e W2 ⟨rfl, gs1, d2, k2, lt2, g1⟩
  have hz2 := k2.size
  have hXW : X ≤ W.heap.size := (unhide HS).XW
  have hsW2 : Shelf B X N W2 pw its kn (.slice alv its.length clv) nv mv := ((unhide HS).later (k1.mono hXW)).later (k2.mono (Nat.le_trans hXW hz1))
  have dd1 : DiskAt 58 64 B W2 W.heap.size (crashed it.S a) fs1 := d1.belowX k2 d1.lt (ownLt_of d1.row) (Nat.le_refl _)
  have c0 : W2.cell? ⟨pw, 0, none⟩ = some (.slice alv its.length clv) := by rw [dcell hsW2.head]; rfl
  have hBW : B ≤ W2.heap.size := Nat.le_trans hsW2.BX hsW2.XW
  clear y1 y2
  go_wp2_with (first
    | (at_builtin; refine push_pair rfl _ _ rfl B (.slice alv its.length clv) its ⟨W.heap.size, fs1, W1.heap.size, gs1, crashed it.S a⟩ rfl (hsW2.lrow.alloc _) W2.heap.size rfl (heap_alloc_last _ _) ?hll ?hbb ?_; (case hll => omega); (case hbb => (rw [size_first]; omega)); intro g3 cap3 W3 ol rl ltl; have hpw2 := lt_of_heap hsW2.head; have p3 : W3.heap[pw]? = W2.heap[pw]? := (rl.block pw (by rw [size_first]; omega) (fun e => by obtain ⟨c, hc⟩ := owns_type hsW2.lrow e.symm; exact absurd (block_type hsW2.head hc) (by decide))).trans (Below.heap_alloc _ _ _ hpw2); have n0 : W3.cell? ⟨pw, 0, none⟩ = some (.slice alv its.length clv) := (World.cell?_of_block (a := ⟨pw, 0, none⟩) p3).trans c0; have n1 : W3.frozen? ⟨pw, 0, none⟩ = false := (World.frozen?_of_block (a := ⟨pw, 0, none⟩) p3).trans (dfree hsW2.head 0))
    | fail)
  go_ret
  have hpX := hsW2.pX
  have h3 := p3.trans hsW2.head
  have ks : Kept (fun k => k = pw) W3 (W3.setCell ⟨pw, 0, none⟩ (.slice (some ⟨g3, 0, none⟩) (its.length + 1) cap3)) := (Kept.refl (fun k => k = pw) W3).setCell (fun _ => rfl) _
  have ol2 := owns_kept ol ks (fun k hk hkp => by
    subst hkp; obtain ⟨c, hc⟩ := owns_type ol hk; exact absurd (block_type h3 hc) (by decide))
  have hk0 : Kept (fun k => k = pw ∨ (Value.slice alv its.length clv).ownBlock = some k) W2 (W3.setCell ⟨pw, 0, none⟩ (.slice (some ⟨g3, 0, none⟩) (its.length + 1) cap3)) := (((Kept.refl _ _).alloc _).grown rl (fun k hk _ => .inr hk)).setCell (fun _ => .inl rfl) _
  have far : ∀ k, W.heap.size ≤ k → ¬ (k = pw ∨ (Value.slice alv its.length clv).ownBlock = some k) := fun k hk hh => by
    rcases hh with rfl | hh
    · omega
    · have := hsW2.lX k hh; omega
  have i1 := dd1.kept hk0 (fun k hk => far k (hk.elim (fun e => by omega) (fun e => f1 k e)))
  have i2 := d2.kept hk0 (fun k hk => far k (hk.elim (fun e => by omega) (fun e => Nat.le_trans hz1 (g1 k e))))
  have hadd := hsW2.add hk0 (by rw [dset h3]; rfl) ol2 (it := ⟨W.heap.size, fs1, W1.heap.size, gs1, crashed it.S a⟩) ⟨i1, i2, i1.lt, i2.lt, ownLt_of i1.row, ownLt_of i2.row, DOk_crashed (unhide HA1).ok a⟩ hXW (Nat.le_trans hXW hz1) (fun k hk => Nat.le_trans hXW (f1 k hk)) (fun k hk => Nat.le_trans hXW (Nat.le_trans hz1 (g1 k hk)))
  refine ⟨rfl, _, _, hadd, by simp, ?_⟩
  have hBW0 : B ≤ w.heap.size := Nat.le_trans (unhide HH).BX (unhide HH).XW
  have hBW1 : B ≤ W.heap.size := Nat.le_trans hBW0 (unhide BB).size
  refine ((((unhide BB).mono hBW0).trans (k1.mono hBW1)).trans (k2.mono (Nat.le_trans hBW1 hz1))).trans (hk0.below hBW (fun k hk => ?_))
  rcases hk with rfl | hk
  · exact hsW2.base
  · exact (hsW2.lrow.lt k hk).1

end
end Go.Proofs.Ytndhpgciopcncaa
