import Derived.Test.YtpbimdkclnekeaaGreatTWhr0

namespace Go.Proofs.YtpbimdkclnekeaaGreat
open Value (int)
open IntKind (i64)
open Go.RowKit Go.Maps Go.Shelf
open Go.ChangeMaps (setBlock)
set_option linter.unusedVariables false
attribute [local go_sem] Oper.semAt_some
set_option maxRecDepth 100000 in
set_option maxHeartbeats 1000000 in
theorem it_live1 {ex : Nat -> Prop} {n m : Nat} (l Bm b : Nat) (L : List (Sg × SV)) (hex : ¬ ex b) (J Jx : List SV -> World -> Prop) (W : World) (hmW : m <= W.heap.size) (hJ : OwnFrom W.heap.size J) (hJx : OwnFrom W.heap.size Jx)
  (hY : ∀ pre x V, J pre V -> pre.length < L.length -> YieldAt Fence.wide 5 Tryz.prog l #[.agg #[int i64 x.st, int i64 x.cl.cnt, int i64 x.cl.sum, .int .i32 x.cl.mn, .int .i32 x.cl.mx]] V fun e V' => (e = .returned (.bool true) /\ J (pre ++ [x]) V' /\ KX ex n m V V') \/ (e = .returned (.bool false) /\ Jx (pre ++ [x]) V' /\ KX ex n m V V'))
  (hm : W.cell? ⟨Bm, 0, none⟩ = some (.map (some b))) (hown : zce liveM W b L) (h0 : J [] W) :
  CallsIn Fence.wide 6 Tryz.prog 125 #[.func (.yield l) #[] #[], .pointer (some ⟨Bm, 0, none⟩)] W fun e W' => (∃ v, e = .returned v) /\
   ((∃ xs, (∃ ps : List (Sg × SV), ps.Perm L /\ xs = ps.map (fun p : Sg × SV => p.2)) /\ J xs W') \/ (∃ pre, True /\ Jx pre W')) := by
 obtain ⟨es, clock, hb, he⟩ := hown
 have hbl := zaa hb
 have hrange := run_range_map (P := Tryz.prog) W 135 _ _ b es clock Tryz.underlying135 hb
 have HE := zab he
 have HHJ := zab hJ
 have hsz := he.count
 refine callsIn_of_wp Tryz.func125 rfl trivial ?_ rfl
 simp only [Tryz.ntmps125, List.size_toArray, List.length_cons, List.length_nil, Nat.reduceAdd, Nat.reduceSub, Array.replicate_succ, Array.replicate_zero, List.push_toArray, List.append_toArray, List.nil_append, List.cons_append]
 gi_wp2
 gi_loopw [4] (fun _ wr => ∃ (seen : Array Nat) (c0 : Nat) (ps : List MapEntry), wr.heap[W.heap.size]? = some (.mapIter (some b) clock seen c0) /\ clock <= c0 /\ wr.heap[b]? = some (.map es clock) /\ Come es seen ps /\ J ((ps.map (decE liveM L)).map (fun p : Sg × SV => p.2)) wr)
  (fun _ wr => leftAt es W.heap.size wr)
 case atStart =>
  exact ⟨#[], clock, [], zap _ _, Nat.le_refl _, (Below.heap_alloc _ _ _ hbl).trans hb, ⟨by simp, by simp, by simp⟩, zcr (ud HHJ) h0 ((Below.refl _ _).alloc (Nat.le_refl _) _)⟩
 case round =>
  obtain ⟨seen, c0, ps, hr, hc0, hbr, hC, hJs⟩ := hrel
  have hrl := zaa hr
  have HC := zab hC
  rcases run_next_at (P := Tryz.prog) wr 0 W.heap.size b clock c0 seen es clock hr hbr (ud HE).born hc0 with ⟨hz, hnext⟩ | ⟨e, hel, w1, hw1, hnext⟩
  ·have HZ := zab hz
   clear hrange hz hC he hJ hJx
   gi_wp2
   go_end0
   exact ⟨⟨_, rfl⟩, .inl ⟨_, ⟨_, dec_perm live_ok (ud HE) ((ud HC).all (ud HE).once (ud HZ)), rfl⟩, hJs⟩⟩
  ·have HEL := zab hel
   obtain ⟨hee, _⟩ := zdw.1 hel
   have hr1 : w1.heap[W.heap.size]? = some (.mapIter (some b) clock seen c0) := by rcases hw1 with rfl | rfl <;> exact hr
   have hb1 : w1.heap[b]? = some (.map es clock) := by rcases hw1 with rfl | rfl <;> exact hbr
   have hne : b ≠ W.heap.size := by omega
   obtain ⟨X, hX⟩ : ∃ X, setBlock w1 W.heap.size (.mapIter (some b) clock (seen.push e.born) clock) = X := ⟨_, rfl⟩
   have hXr : X.heap[W.heap.size]? = some (.mapIter (some b) clock (seen.push e.born) clock) := by rw [<- hX]; exact setBlock_at (zaa hr1) _
   have hXb : X.heap[b]? = some (.map es clock) := by rw [<- hX, setBlock_other hne]; exact hb1
   have hgX : wr.grownBy X (some W.heap.size) := by
    rw [<- hX]; rcases hw1 with rfl | rfl
    ·exact setBlock_grown _ _ _
    ·have := setBlock_grown wr.drew W.heap.size (.mapIter (some b) clock (seen.push e.born) clock)
     exact ⟨this.os, this.tape, this.output, this.size, this.block⟩
   rw [hX] at hnext
   have hent := run_entry_at (P := Tryz.prog) X W.heap.size b clock seen es clock e hXr hXb hee (ud HE).once
   obtain ⟨hdm, hk, hv⟩ := dec_at live_ok he hee
   have hval : e.val = svVal ((decE liveM L e).2) := hv
   unfold svVal at hval
   rw [hval] at hnext hent
   have hJX : J ((ps.map (decE liveM L)).map (fun p : Sg × SV => p.2)) X := ud HHJ _ wr X (some W.heap.size) hJs hgX (fun r e => by cases e; exact ⟨Nat.le_refl _, _, hr, rfl⟩)
   obtain ⟨y, hy0⟩ : ∃ y, (decE liveM L e).2 = y := ⟨_, rfl⟩
   have HY0 : Hid ((fun p : Sg × SV => p.2) (decE liveM L e) = y) := hy0
   rw [hy0] at hnext hent
   have hba := (Below.refl X.heap.size X).alloc (Nat.le_refl _) (.cells #[int i64 y.st, int i64 y.cl.cnt, int i64 y.cl.sum, .int .i32 y.cl.mn, .int .i32 y.cl.mx] 131)
   obtain ⟨fn, tmps, assign, body, hy, hR⟩ := hY ((ps.map (decE liveM L)).map (fun p : Sg × SV => p.2)) y _ (zcr (ud HHJ) hJX hba) (by rw [List.length_map, List.length_map]; have := hC.lt hel; omega)
   have HXR := zab hXr
   have HXB := zab hXb
   have HX := zab hX
   have HHR := zab hr
   clear hrange hC he hXr hXb hX hee hr1 hb1 hv hk hgX hval hr hbr hel hw1 hdm hy0 hba hJ hJx
   gi_wp2
   refine hR.mono ?_
   rintro e3 W3 (⟨rfl, hJ3, hk3⟩ | ⟨rfl, hJx3, hk3⟩)
   ·gi_wp2
    have hr3 := hk3.high W.heap.size _ (by omega) ((Below.heap_alloc _ _ _ (zaa (ud HXR))).trans (ud HXR))
    have hb3 := hk3.walk b _ hex ((Below.heap_alloc _ _ _ (zaa (ud HXB))).trans (ud HXB)) rfl
    go_roundw
    case rel => exact ⟨_, _, ps ++ [e], hr3, Nat.le_refl _, hb3, (ud HC).step (ud HEL), by rw [List.map_append, List.map_append, List.map_singleton, List.map_singleton, ud HY0]; exact hJ3⟩
    case measure => rw [leftAt_eq hr3, leftAt_eq (ud HHR)]; exact left_less (ud HEL)
   ·gi_wp2
    refine bodyPost_ret (results_none rfl _ _ _) rfl ?_
    exact ⟨⟨_, rfl⟩, .inr ⟨_, trivial, hJx3⟩⟩
theorem it_live0 (b : Nat) (w : World) :
  Calls Tryz.prog 71 #[.map (some b)] w fun e w' => e = .returned (.func (.func 125) #[] #[.pointer (some ⟨w.heap.size, 0, none⟩)]) /\ w' = w.alloc (.cells #[.map (some b)] 135) := by
 go_enter Tryz.func71, Tryz.ntmps71
 go_wp2_with fail
 go_ret
 exact ⟨rfl, rfl⟩
theorem it_live {ex : Nat -> Prop} {n : Nat} (Bm b : Nat) (L : List (Sg × SV)) (w : World) (hex : ¬ ex b) (hBm : Bm < w.heap.size) (hm : w.cell? ⟨Bm, 0, none⟩ = some (.map (some b))) (hown : zce liveM w b L) :
  SeqF ex n Tryz.prog 125 #[.pointer (some ⟨Bm, 0, none⟩)] (fun x : SV => #[.agg #[int i64 x.st, int i64 x.cl.cnt, int i64 x.cl.sum, .int .i32 x.cl.mn, .int .i32 x.cl.mx]]) (fun xs => ∃ ps : List (Sg × SV), ps.Perm L /\ xs = ps.map (fun p : Sg × SV => p.2)) L.length w :=
 fun m hm0 l J Jx W hW hmW hJ hJx hY h0 => it_live1 l Bm b L hex J Jx W hmW hJ hJx hY ((hW.cell (p := ⟨Bm, 0, none⟩) hBm).trans hm) (hown.later hW) h0
theorem en_live : ∀ args w, (callFunc 125 args).run Tryz.prog w = .ok (.enter 125 args) w := enters_of Tryz.func125 (by kernel_rfl) rfl
attribute [local go_sem] Oper.semAt_some
set_option maxRecDepth 100000 in
set_option maxHeartbeats 1000000 in
theorem it_keys1 {α : Type} (sg : α -> Sg) (mk : Sg -> α) {ex : Nat -> Prop} {n m : Nat} (l Bm b : Nat) (L : List (Sg × SV)) (hmk : ∀ p ∈ L, sg (mk p.1) = p.1) (hex : ¬ ex b) (J Jx : List α -> World -> Prop) (W : World) (hmW : m <= W.heap.size) (hJ : OwnFrom W.heap.size J) (hJx : OwnFrom W.heap.size Jx)
  (hY : ∀ pre x V, J pre V -> pre.length < L.length -> YieldAt Fence.wide 5 Tryz.prog l #[.agg #[int i64 (sg x).t, int i64 (sg x).ser, int i64 (sg x).win]] V fun e V' => (e = .returned (.bool true) /\ J (pre ++ [x]) V' /\ KX ex n m V V') \/ (e = .returned (.bool false) /\ Jx (pre ++ [x]) V' /\ KX ex n m V V'))
  (hm : W.cell? ⟨Bm, 0, none⟩ = some (.map (some b))) (hown : zce liveM W b L) (h0 : J [] W) :
  CallsIn Fence.wide 6 Tryz.prog 192 #[.func (.yield l) #[] #[], .pointer (some ⟨Bm, 0, none⟩)] W fun e W' => (∃ v, e = .returned v) /\
   ((∃ xs, (∃ ps : List (Sg × SV), ps.Perm L /\ xs = ps.map (fun p : Sg × SV => mk p.1)) /\ J xs W') \/ (∃ pre, True /\ Jx pre W')) := by
 obtain ⟨es, clock, hb, he⟩ := hown
 have hbl := zaa hb
 have hrange := run_range_map (P := Tryz.prog) W 135 _ _ b es clock Tryz.underlying135 hb
 have HE := zab he
 have HHJ := zab hJ
 have hsz := he.count
 refine callsIn_of_wp Tryz.func192 rfl trivial ?_ rfl
 simp only [Tryz.ntmps192, List.size_toArray, List.length_cons, List.length_nil, Nat.reduceAdd, Nat.reduceSub, Array.replicate_succ, Array.replicate_zero, List.push_toArray, List.append_toArray, List.nil_append, List.cons_append]
 gi_wp2
 gi_loopw [3] (fun _ wr => ∃ (seen : Array Nat) (c0 : Nat) (ps : List MapEntry), wr.heap[W.heap.size]? = some (.mapIter (some b) clock seen c0) /\ clock <= c0 /\ wr.heap[b]? = some (.map es clock) /\ Come es seen ps /\ J ((ps.map (decE liveM L)).map (fun p : Sg × SV => mk p.1)) wr)
  (fun _ wr => leftAt es W.heap.size wr)
 case atStart =>
  exact ⟨#[], clock, [], zap _ _, Nat.le_refl _, (Below.heap_alloc _ _ _ hbl).trans hb, ⟨by simp, by simp, by simp⟩, zcr (ud HHJ) h0 ((Below.refl _ _).alloc (Nat.le_refl _) _)⟩
 case round =>
  obtain ⟨seen, c0, ps, hr, hc0, hbr, hC, hJs⟩ := hrel
  have hrl := zaa hr
  have HC := zab hC
  rcases run_next_at (P := Tryz.prog) wr 0 W.heap.size b clock c0 seen es clock hr hbr (ud HE).born hc0 with ⟨hz, hnext⟩ | ⟨e, hel, w1, hw1, hnext⟩
  ·have HZ := zab hz
   clear hrange hz hC he hJ hJx
   gi_wp2
   go_end0
   exact ⟨⟨_, rfl⟩, .inl ⟨_, ⟨_, dec_perm live_ok (ud HE) ((ud HC).all (ud HE).once (ud HZ)), rfl⟩, hJs⟩⟩
  ·have HEL := zab hel
   obtain ⟨hee, _⟩ := zdw.1 hel
   have hr1 : w1.heap[W.heap.size]? = some (.mapIter (some b) clock seen c0) := by rcases hw1 with rfl | rfl <;> exact hr
   have hb1 : w1.heap[b]? = some (.map es clock) := by rcases hw1 with rfl | rfl <;> exact hbr
   have hne : b ≠ W.heap.size := by omega
   obtain ⟨X, hX⟩ : ∃ X, setBlock w1 W.heap.size (.mapIter (some b) clock (seen.push e.born) clock) = X := ⟨_, rfl⟩
   have hXr : X.heap[W.heap.size]? = some (.mapIter (some b) clock (seen.push e.born) clock) := by rw [<- hX]; exact setBlock_at (zaa hr1) _
   have hXb : X.heap[b]? = some (.map es clock) := by rw [<- hX, setBlock_other hne]; exact hb1
   have hgX : wr.grownBy X (some W.heap.size) := by
    rw [<- hX]; rcases hw1 with rfl | rfl
    ·exact setBlock_grown _ _ _
    ·have := setBlock_grown wr.drew W.heap.size (.mapIter (some b) clock (seen.push e.born) clock)
     exact ⟨this.os, this.tape, this.output, this.size, this.block⟩
   rw [hX] at hnext
   have hent := run_entry_at (P := Tryz.prog) X W.heap.size b clock seen es clock e hXr hXb hee (ud HE).once
   obtain ⟨hdm, hk, hv⟩ := dec_at live_ok he hee
   have hval : e.key = sgVal (sg (mk (decE liveM L e).1)) := by rw [hmk _ hdm]; exact hk
   unfold sgVal at hval
   rw [hval] at hnext hent
   have hJX : J ((ps.map (decE liveM L)).map (fun p : Sg × SV => mk p.1)) X := ud HHJ _ wr X (some W.heap.size) hJs hgX (fun r e => by cases e; exact ⟨Nat.le_refl _, _, hr, rfl⟩)
   obtain ⟨y, hy0⟩ : ∃ y, mk (decE liveM L e).1 = y := ⟨_, rfl⟩
   have HY0 : Hid ((fun p : Sg × SV => mk p.1) (decE liveM L e) = y) := hy0
   rw [hy0] at hnext hent
   have hba := (Below.refl X.heap.size X).alloc (Nat.le_refl _) (.cells #[int i64 (sg y).t, int i64 (sg y).ser, int i64 (sg y).win] 137)
   obtain ⟨fn, tmps, assign, body, hy, hR⟩ := hY ((ps.map (decE liveM L)).map (fun p : Sg × SV => mk p.1)) y _ (zcr (ud HHJ) hJX hba) (by rw [List.length_map, List.length_map]; have := hC.lt hel; omega)
   have HXR := zab hXr
   have HXB := zab hXb
   have HX := zab hX
   have HHR := zab hr
   clear hrange hC he hXr hXb hX hee hr1 hb1 hv hk hgX hval hr hbr hel hw1 hdm hy0 hba hJ hJx
   gi_wp2
   refine hR.mono ?_
   rintro e3 W3 (⟨rfl, hJ3, hk3⟩ | ⟨rfl, hJx3, hk3⟩)
   ·gi_wp2
    have hr3 := hk3.high W.heap.size _ (by omega) ((Below.heap_alloc _ _ _ (zaa (ud HXR))).trans (ud HXR))
    have hb3 := hk3.walk b _ hex ((Below.heap_alloc _ _ _ (zaa (ud HXB))).trans (ud HXB)) rfl
    go_roundw
    case rel => exact ⟨_, _, ps ++ [e], hr3, Nat.le_refl _, hb3, (ud HC).step (ud HEL), by rw [List.map_append, List.map_append, List.map_singleton, List.map_singleton, ud HY0]; exact hJ3⟩
    case measure => rw [leftAt_eq hr3, leftAt_eq (ud HHR)]; exact left_less (ud HEL)
   ·gi_wp2
    refine bodyPost_ret (results_none rfl _ _ _) rfl ?_
    exact ⟨⟨_, rfl⟩, .inr ⟨_, trivial, hJx3⟩⟩
theorem it_keys0 (b : Nat) (w : World) :
  Calls Tryz.prog 145 #[.map (some b)] w fun e w' => e = .returned (.func (.func 192) #[] #[.pointer (some ⟨w.heap.size, 0, none⟩)]) /\ w' = w.alloc (.cells #[.map (some b)] 135) := by
 go_enter Tryz.func145, Tryz.ntmps145
 go_wp2_with fail
 go_ret
 exact ⟨rfl, rfl⟩
theorem it_keys {α : Type} (sg : α -> Sg) (mk : Sg -> α) {ex : Nat -> Prop} {n : Nat} (Bm b : Nat) (L : List (Sg × SV)) (hmk : ∀ p ∈ L, sg (mk p.1) = p.1) (w : World) (hex : ¬ ex b) (hBm : Bm < w.heap.size) (hm : w.cell? ⟨Bm, 0, none⟩ = some (.map (some b))) (hown : zce liveM w b L) :
  SeqF ex n Tryz.prog 192 #[.pointer (some ⟨Bm, 0, none⟩)] (fun x : α => #[.agg #[int i64 (sg x).t, int i64 (sg x).ser, int i64 (sg x).win]]) (fun xs => ∃ ps : List (Sg × SV), ps.Perm L /\ xs = ps.map (fun p : Sg × SV => mk p.1)) L.length w :=
 fun m hm0 l J Jx W hW hmW hJ hJx hY h0 => it_keys1 sg mk l Bm b L hmk hex J Jx W hmW hJ hJx hY ((hW.cell (p := ⟨Bm, 0, none⟩) hBm).trans hm) (hown.later hW) h0
theorem en_keys : ∀ args w, (callFunc 192 args).run Tryz.prog w = .ok (.enter 192 args) w := enters_of Tryz.func192 (by kernel_rfl) rfl
end Go.Proofs.YtpbimdkclnekeaaGreat
