import Derived.Test.YtpbimdkclnekeaaGreatKWhr0
import Derived.Test.YtpbimdkclnekeaaGreatKRefE
import Derived.Maps.OwnIn
import Derived.OwnWalkIn

namespace Go.Proofs.YtpbimdkclnekeaaGreat
open Value (int)
open IntKind (i64)
open Go.RowKit Go.Maps Go.Shelf
open Go.ChangeMaps (setBlock)
set_option linter.unusedVariables false
attribute [local go_sem] Oper.semAt_some
set_option maxRecDepth 100000 in
set_option maxHeartbeats 1000000 in
theorem it_live1 {ex : Nat -> Prop} {n m : Nat} (l Bm b : Nat) (L : List (Sg × SV)) (hex : ¬ ex b) (J Jx : List SV -> World -> Prop) (W : World) (hmW : m <= W.heap.size) (hJ : OwnFrom W.heap.size J) (hJx : OwnFrom W.heap.size Jx)
  (hY : ∀ pre x V, J pre V -> pre.length < L.length -> YieldAt Fence.wide 5 Tryz.prog l #[.agg #[int i64 x.st, int i64 x.cl.cnt, int i64 x.cl.sum, .int .i32 x.cl.mn, .int .i32 x.cl.mx]] V fun e V' => (e = .returned (.bool true) /\ J (pre ++ [x]) V' /\ KX ex n m V V') \/ (e = .returned (.bool false) /\ Jx (pre ++ [x]) V' /\ KX ex n m V V'))
  (hm : W.cell? ⟨Bm, 0, none⟩ = some (.map (some b))) (hown : zbs liveM W b L) (h0 : J [] W) :
  CallsIn Fence.wide 6 Tryz.prog 125 #[.func (.yield l) #[] #[], .pointer (some ⟨Bm, 0, none⟩)] W fun e W' => (∃ v, e = .returned v) /\
   ((∃ xs, (∃ ps : List (Sg × SV), ps.Perm L /\ xs = ps.map (fun p : Sg × SV => p.2)) /\ J xs W') \/ (∃ pre, True /\ Jx pre W')) := by
 obtain ⟨es, clock, hb, he⟩ := hown
 have hbl := zaa hb
 have hrange := run_range_map (P := Tryz.prog) W 135 _ _ b es clock Tryz.underlying135 hb
 have HE := zac he
 have HHJ := zac hJ
 have hsz := he.count
 refine callsIn_of_wp Tryz.func125 rfl trivial ?_ rfl
 simp only [Tryz.ntmps125, List.size_toArray, List.length_cons, List.length_nil, Nat.reduceAdd, Nat.reduceSub, Array.replicate_succ, Array.replicate_zero, List.push_toArray, List.append_toArray, List.nil_append, List.cons_append]
 gi_wp2
 gi_loopw [4] (fun _ wr => ∃ (seen : Array Nat) (c0 : Nat) (ps : List MapEntry), wr.heap[W.heap.size]? = some (.mapIter (some b) clock seen c0) /\ clock <= c0 /\ wr.heap[b]? = some (.map es clock) /\ Come es seen ps /\ J ((ps.map (decE liveM L)).map (fun p : Sg × SV => p.2)) wr)
  (fun _ wr => leftAt es W.heap.size wr)
 case atStart =>
  exact ⟨#[], clock, [], zag _ _, Nat.le_refl _, (Below.heap_alloc _ _ _ hbl).trans hb, ⟨by simp, by simp, by simp⟩, zbf (ud HHJ) h0 ((Below.refl _ _).alloc (Nat.le_refl _) _)⟩
 case round =>
  obtain ⟨seen, c0, ps, hr, hc0, hbr, hC, hJs⟩ := hrel
  have hrl := zaa hr
  have HC := zac hC
  rcases run_next_at (P := Tryz.prog) wr 0 W.heap.size b clock c0 seen es clock hr hbr (ud HE).born hc0 with ⟨hz, hnext⟩ | ⟨e, hel, w1, hw1, hnext⟩
  ·have HZ := zac hz
   clear hrange hz hC he hJ hJx
   gi_wp2
   go_end0
   exact ⟨⟨_, rfl⟩, .inl ⟨_, ⟨_, dec_perm live_ok (ud HE) ((ud HC).all (ud HE).once (ud HZ)), rfl⟩, hJs⟩⟩
  ·have HEL := zac hel
   obtain ⟨hee, _⟩ := zcn.1 hel
   have hr1 : w1.heap[W.heap.size]? = some (.mapIter (some b) clock seen c0) := by rcases hw1 with rfl | rfl <;> exact hr
   have hb1 : w1.heap[b]? = some (.map es clock) := by rcases hw1 with rfl | rfl <;> exact hbr
   have hne : b ≠ W.heap.size := by omega
   obtain ⟨X, hX⟩ : ∃ X, setBlock w1 W.heap.size (.mapIter (some b) clock (seen.push e.born) clock) = X := ⟨_, rfl⟩
   have hXr : X.heap[W.heap.size]? = some (.mapIter (some b) clock (seen.push e.born) clock) := by rw [<- hX]; exact zcv (zaa hr1) _
   have hXb : X.heap[b]? = some (.map es clock) := by rw [<- hX, zcq hne]; exact hb1
   have hgX : wr.grownBy X (some W.heap.size) := by
    rw [<- hX]; rcases hw1 with rfl | rfl
    ·exact zce _ _ _
    ·have := zce wr.drew W.heap.size (.mapIter (some b) clock (seen.push e.born) clock)
     exact ⟨this.os, this.tape, this.output, this.size, this.block⟩
   rw [hX] at hnext
   have hent := run_entry_at (P := Tryz.prog) X W.heap.size b clock seen es clock e hXr hXb hee (ud HE).once
   obtain ⟨hdm, hk, hv⟩ := dec_at live_ok he hee
   have hval : e.val = svVal ((decE liveM L e).2) := hv
   unfold svVal at hval
   rw [hval] at hnext hent
   have hJX : J ((ps.map (decE liveM L)).map (fun p : Sg × SV => p.2)) X := ud HHJ _ wr X (some W.heap.size) hJs hgX (fun r e => by cases e; exact ⟨Nat.le_refl _, _, hr, rfl⟩)
   obtain ⟨y, hy0⟩ : ∃ y, (decE liveM L e).2 = y := ⟨_, rfl⟩
   have HY0 : Hid ((fun p : Sg × SV => p.2) (decE liveM L e) = y) := hy0
   rw [hy0] at hnext hent
   have hba := (Below.refl X.heap.size X).alloc (Nat.le_refl _) (.cells #[int i64 y.st, int i64 y.cl.cnt, int i64 y.cl.sum, .int .i32 y.cl.mn, .int .i32 y.cl.mx] 131)
   obtain ⟨fn, tmps, assign, body, hy, hR⟩ := hY ((ps.map (decE liveM L)).map (fun p : Sg × SV => p.2)) y _ (zbf (ud HHJ) hJX hba) (by rw [List.length_map, List.length_map]; have := hC.lt hel; omega)
   have HXR := zac hXr
   have HXB := zac hXb
   have HX := zac hX
   have HHR := zac hr
   clear hrange hC he hXr hXb hX hee hr1 hb1 hv hk hgX hval hr hbr hel hw1 hdm hy0 hba hJ hJx
   gi_wp2
   refine hR.mono ?_
   rintro e3 W3 (⟨rfl, hJ3, hk3⟩ | ⟨rfl, hJx3, hk3⟩)
   ·gi_wp2
    have hr3 := hk3.high W.heap.size _ (by omega) ((Below.heap_alloc _ _ _ (zaa (ud HXR))).trans (ud HXR))
    have hb3 := hk3.walk b _ hex ((Below.heap_alloc _ _ _ (zaa (ud HXB))).trans (ud HXB)) rfl
    go_roundw
    case rel => exact ⟨_, _, ps ++ [e], hr3, Nat.le_refl _, hb3, (ud HC).step (ud HEL), by rw [List.map_append, List.map_append, List.map_singleton, List.map_singleton, ud HY0]; exact hJ3⟩
    case measure => rw [zck hr3, zck (ud HHR)]; exact zfc (ud HEL)
   ·gi_wp2
    refine bodyPost_ret (results_none rfl _ _ _) rfl ?_
    exact ⟨⟨_, rfl⟩, .inr ⟨_, trivial, hJx3⟩⟩
theorem it_live0 (b : Nat) (w : World) :
  Calls Tryz.prog 71 #[.map (some b)] w fun e w' => e = .returned (.func (.func 125) #[] #[.pointer (some ⟨w.heap.size, 0, none⟩)]) /\ w' = w.alloc (.cells #[.map (some b)] 135) := by
 go_enter Tryz.func71, Tryz.ntmps71
 go_wp2_with fail
 go_ret
 exact ⟨rfl, rfl⟩
theorem it_live {ex : Nat -> Prop} {n : Nat} (Bm b : Nat) (L : List (Sg × SV)) (w : World) (hex : ¬ ex b) (hBm : Bm < w.heap.size) (hm : w.cell? ⟨Bm, 0, none⟩ = some (.map (some b))) (hown : zbs liveM w b L) :
  SeqF ex n Tryz.prog 125 #[.pointer (some ⟨Bm, 0, none⟩)] (fun x : SV => #[.agg #[int i64 x.st, int i64 x.cl.cnt, int i64 x.cl.sum, .int .i32 x.cl.mn, .int .i32 x.cl.mx]]) (fun xs => ∃ ps : List (Sg × SV), ps.Perm L /\ xs = ps.map (fun p : Sg × SV => p.2)) L.length w :=
 fun m hm0 l J Jx W hW hmW hJ hJx hY h0 => it_live1 l Bm b L hex J Jx W hmW hJ hJx hY ((hW.cell (p := ⟨Bm, 0, none⟩) hBm).trans hm) (hown.later hW) h0
theorem en_live : ∀ args w, (callFunc 125 args).run Tryz.prog w = .ok (.enter 125 args) w := enters_of Tryz.func125 (by kernel_rfl) rfl
attribute [local go_sem] Oper.semAt_some
set_option maxRecDepth 100000 in
set_option maxHeartbeats 1000000 in
theorem it_keys1 {α : Type} (sg : α -> Sg) (mk : Sg -> α) {ex : Nat -> Prop} {n m : Nat} (l Bm b : Nat) (L : List (Sg × SV)) (hmk : ∀ p ∈ L, sg (mk p.1) = p.1) (hex : ¬ ex b) (J Jx : List α -> World -> Prop) (W : World) (hmW : m <= W.heap.size) (hJ : OwnFrom W.heap.size J) (hJx : OwnFrom W.heap.size Jx)
  (hY : ∀ pre x V, J pre V -> pre.length < L.length -> YieldAt Fence.wide 5 Tryz.prog l #[.agg #[int i64 (sg x).t, int i64 (sg x).ser, int i64 (sg x).win]] V fun e V' => (e = .returned (.bool true) /\ J (pre ++ [x]) V' /\ KX ex n m V V') \/ (e = .returned (.bool false) /\ Jx (pre ++ [x]) V' /\ KX ex n m V V'))
  (hm : W.cell? ⟨Bm, 0, none⟩ = some (.map (some b))) (hown : zbs liveM W b L) (h0 : J [] W) :
  CallsIn Fence.wide 6 Tryz.prog 192 #[.func (.yield l) #[] #[], .pointer (some ⟨Bm, 0, none⟩)] W fun e W' => (∃ v, e = .returned v) /\
   ((∃ xs, (∃ ps : List (Sg × SV), ps.Perm L /\ xs = ps.map (fun p : Sg × SV => mk p.1)) /\ J xs W') \/ (∃ pre, True /\ Jx pre W')) := by
 obtain ⟨es, clock, hb, he⟩ := hown
 have hbl := zaa hb
 have hrange := run_range_map (P := Tryz.prog) W 135 _ _ b es clock Tryz.underlying135 hb
 have HE := zac he
 have HHJ := zac hJ
 have hsz := he.count
 refine callsIn_of_wp Tryz.func192 rfl trivial ?_ rfl
 simp only [Tryz.ntmps192, List.size_toArray, List.length_cons, List.length_nil, Nat.reduceAdd, Nat.reduceSub, Array.replicate_succ, Array.replicate_zero, List.push_toArray, List.append_toArray, List.nil_append, List.cons_append]
 gi_wp2
 gi_loopw [3] (fun _ wr => ∃ (seen : Array Nat) (c0 : Nat) (ps : List MapEntry), wr.heap[W.heap.size]? = some (.mapIter (some b) clock seen c0) /\ clock <= c0 /\ wr.heap[b]? = some (.map es clock) /\ Come es seen ps /\ J ((ps.map (decE liveM L)).map (fun p : Sg × SV => mk p.1)) wr)
  (fun _ wr => leftAt es W.heap.size wr)
 case atStart =>
  exact ⟨#[], clock, [], zag _ _, Nat.le_refl _, (Below.heap_alloc _ _ _ hbl).trans hb, ⟨by simp, by simp, by simp⟩, zbf (ud HHJ) h0 ((Below.refl _ _).alloc (Nat.le_refl _) _)⟩
 case round =>
  obtain ⟨seen, c0, ps, hr, hc0, hbr, hC, hJs⟩ := hrel
  have hrl := zaa hr
  have HC := zac hC
  rcases run_next_at (P := Tryz.prog) wr 0 W.heap.size b clock c0 seen es clock hr hbr (ud HE).born hc0 with ⟨hz, hnext⟩ | ⟨e, hel, w1, hw1, hnext⟩
  ·have HZ := zac hz
   clear hrange hz hC he hJ hJx
   gi_wp2
   go_end0
   exact ⟨⟨_, rfl⟩, .inl ⟨_, ⟨_, dec_perm live_ok (ud HE) ((ud HC).all (ud HE).once (ud HZ)), rfl⟩, hJs⟩⟩
  ·have HEL := zac hel
   obtain ⟨hee, _⟩ := zcn.1 hel
   have hr1 : w1.heap[W.heap.size]? = some (.mapIter (some b) clock seen c0) := by rcases hw1 with rfl | rfl <;> exact hr
   have hb1 : w1.heap[b]? = some (.map es clock) := by rcases hw1 with rfl | rfl <;> exact hbr
   have hne : b ≠ W.heap.size := by omega
   obtain ⟨X, hX⟩ : ∃ X, setBlock w1 W.heap.size (.mapIter (some b) clock (seen.push e.born) clock) = X := ⟨_, rfl⟩
   have hXr : X.heap[W.heap.size]? = some (.mapIter (some b) clock (seen.push e.born) clock) := by rw [<- hX]; exact zcv (zaa hr1) _
   have hXb : X.heap[b]? = some (.map es clock) := by rw [<- hX, zcq hne]; exact hb1
   have hgX : wr.grownBy X (some W.heap.size) := by
    rw [<- hX]; rcases hw1 with rfl | rfl
    ·exact zce _ _ _
    ·have := zce wr.drew W.heap.size (.mapIter (some b) clock (seen.push e.born) clock)
     exact ⟨this.os, this.tape, this.output, this.size, this.block⟩
   rw [hX] at hnext
   have hent := run_entry_at (P := Tryz.prog) X W.heap.size b clock seen es clock e hXr hXb hee (ud HE).once
   obtain ⟨hdm, hk, hv⟩ := dec_at live_ok he hee
   have hval : e.key = sgVal (sg (mk (decE liveM L e).1)) := by rw [hmk _ hdm]; exact hk
   unfold sgVal at hval
   rw [hval] at hnext hent
   have hJX : J ((ps.map (decE liveM L)).map (fun p : Sg × SV => mk p.1)) X := ud HHJ _ wr X (some W.heap.size) hJs hgX (fun r e => by cases e; exact ⟨Nat.le_refl _, _, hr, rfl⟩)
   obtain ⟨y, hy0⟩ : ∃ y, mk (decE liveM L e).1 = y := ⟨_, rfl⟩
   have HY0 : Hid ((fun p : Sg × SV => mk p.1) (decE liveM L e) = y) := hy0
   rw [hy0] at hnext hent
   have hba := (Below.refl X.heap.size X).alloc (Nat.le_refl _) (.cells #[int i64 (sg y).t, int i64 (sg y).ser, int i64 (sg y).win] 137)
   obtain ⟨fn, tmps, assign, body, hy, hR⟩ := hY ((ps.map (decE liveM L)).map (fun p : Sg × SV => mk p.1)) y _ (zbf (ud HHJ) hJX hba) (by rw [List.length_map, List.length_map]; have := hC.lt hel; omega)
   have HXR := zac hXr
   have HXB := zac hXb
   have HX := zac hX
   have HHR := zac hr
   clear hrange hC he hXr hXb hX hee hr1 hb1 hv hk hgX hval hr hbr hel hw1 hdm hy0 hba hJ hJx
   gi_wp2
   refine hR.mono ?_
   rintro e3 W3 (⟨rfl, hJ3, hk3⟩ | ⟨rfl, hJx3, hk3⟩)
   ·gi_wp2
    have hr3 := hk3.high W.heap.size _ (by omega) ((Below.heap_alloc _ _ _ (zaa (ud HXR))).trans (ud HXR))
    have hb3 := hk3.walk b _ hex ((Below.heap_alloc _ _ _ (zaa (ud HXB))).trans (ud HXB)) rfl
    go_roundw
    case rel => exact ⟨_, _, ps ++ [e], hr3, Nat.le_refl _, hb3, (ud HC).step (ud HEL), by rw [List.map_append, List.map_append, List.map_singleton, List.map_singleton, ud HY0]; exact hJ3⟩
    case measure => rw [zck hr3, zck (ud HHR)]; exact zfc (ud HEL)
   ·gi_wp2
    refine bodyPost_ret (results_none rfl _ _ _) rfl ?_
    exact ⟨⟨_, rfl⟩, .inr ⟨_, trivial, hJx3⟩⟩
theorem it_keys0 (b : Nat) (w : World) :
  Calls Tryz.prog 145 #[.map (some b)] w fun e w' => e = .returned (.func (.func 192) #[] #[.pointer (some ⟨w.heap.size, 0, none⟩)]) /\ w' = w.alloc (.cells #[.map (some b)] 135) := by
 go_enter Tryz.func145, Tryz.ntmps145
 go_wp2_with fail
 go_ret
 exact ⟨rfl, rfl⟩
theorem it_keys {α : Type} (sg : α -> Sg) (mk : Sg -> α) {ex : Nat -> Prop} {n : Nat} (Bm b : Nat) (L : List (Sg × SV)) (hmk : ∀ p ∈ L, sg (mk p.1) = p.1) (w : World) (hex : ¬ ex b) (hBm : Bm < w.heap.size) (hm : w.cell? ⟨Bm, 0, none⟩ = some (.map (some b))) (hown : zbs liveM w b L) :
  SeqF ex n Tryz.prog 192 #[.pointer (some ⟨Bm, 0, none⟩)] (fun x : α => #[.agg #[int i64 (sg x).t, int i64 (sg x).ser, int i64 (sg x).win]]) (fun xs => ∃ ps : List (Sg × SV), ps.Perm L /\ xs = ps.map (fun p : Sg × SV => mk p.1)) L.length w :=
 fun m hm0 l J Jx W hW hmW hJ hJx hY h0 => it_keys1 sg mk l Bm b L hmk hex J Jx W hmW hJ hJx hY ((hW.cell (p := ⟨Bm, 0, none⟩) hBm).trans hm) (hown.later hW) h0
theorem en_keys : ∀ args w, (callFunc 192 args).run Tryz.prog w = .ok (.enter 192 args) w := enters_of Tryz.func192 (by kernel_rfl) rfl
attribute [local go_sem] Oper.semAt_some
set_option maxRecDepth 100000 in
set_option maxHeartbeats 1000000 in
theorem it_lse1 {ex : Nat -> Prop} {n m : Nat} (l Bm b : Nat) (L : List (Tok × Lse)) (hex : ¬ ex b) (J Jx : List Lse -> World -> Prop) (W : World) (hmW : m <= W.heap.size) (hJ : OwnFrom W.heap.size J) (hJx : OwnFrom W.heap.size Jx)
  (hY : ∀ pre x V, J pre V -> pre.length < L.length -> YieldAt Fence.wide 5 Tryz.prog l #[.agg #[int i64 x.kd, int i64 x.s.t, int i64 x.s.ser, int i64 x.s.win, int i64 x.slot, int i64 x.til]] V fun e V' => (e = .returned (.bool true) /\ J (pre ++ [x]) V' /\ KX ex n m V V') \/ (e = .returned (.bool false) /\ Jx (pre ++ [x]) V' /\ KX ex n m V V'))
  (hm : W.cell? ⟨Bm, 0, none⟩ = some (.map (some b))) (hown : zbs zch W b L) (h0 : J [] W) :
  CallsIn Fence.wide 6 Tryz.prog 131 #[.func (.yield l) #[] #[], .pointer (some ⟨Bm, 0, none⟩)] W fun e W' => (∃ v, e = .returned v) /\
   ((∃ xs, (∃ ps : List (Tok × Lse), ps.Perm L /\ xs = ps.map (fun p : Tok × Lse => p.2)) /\ J xs W') \/ (∃ pre, True /\ Jx pre W')) := by
 obtain ⟨es, clock, hb, he⟩ := hown
 have hbl := zaa hb
 have hrange := run_range_map (P := Tryz.prog) W 153 _ _ b es clock Tryz.underlying153 hb
 have HE := zac he
 have HHJ := zac hJ
 have hsz := he.count
 refine callsIn_of_wp Tryz.func131 rfl trivial ?_ rfl
 simp only [Tryz.ntmps131, List.size_toArray, List.length_cons, List.length_nil, Nat.reduceAdd, Nat.reduceSub, Array.replicate_succ, Array.replicate_zero, List.push_toArray, List.append_toArray, List.nil_append, List.cons_append]
 gi_wp2
 gi_loopw [4] (fun _ wr => ∃ (seen : Array Nat) (c0 : Nat) (ps : List MapEntry), wr.heap[W.heap.size]? = some (.mapIter (some b) clock seen c0) /\ clock <= c0 /\ wr.heap[b]? = some (.map es clock) /\ Come es seen ps /\ J ((ps.map (decE zch L)).map (fun p : Tok × Lse => p.2)) wr)
  (fun _ wr => leftAt es W.heap.size wr)
 case atStart =>
  exact ⟨#[], clock, [], zag _ _, Nat.le_refl _, (Below.heap_alloc _ _ _ hbl).trans hb, ⟨by simp, by simp, by simp⟩, zbf (ud HHJ) h0 ((Below.refl _ _).alloc (Nat.le_refl _) _)⟩
 case round =>
  obtain ⟨seen, c0, ps, hr, hc0, hbr, hC, hJs⟩ := hrel
  have hrl := zaa hr
  have HC := zac hC
  rcases run_next_at (P := Tryz.prog) wr 0 W.heap.size b clock c0 seen es clock hr hbr (ud HE).born hc0 with ⟨hz, hnext⟩ | ⟨e, hel, w1, hw1, hnext⟩
  ·have HZ := zac hz
   clear hrange hz hC he hJ hJx
   gi_wp2
   go_end0
   exact ⟨⟨_, rfl⟩, .inl ⟨_, ⟨_, dec_perm zfa (ud HE) ((ud HC).all (ud HE).once (ud HZ)), rfl⟩, hJs⟩⟩
  ·have HEL := zac hel
   obtain ⟨hee, _⟩ := zcn.1 hel
   have hr1 : w1.heap[W.heap.size]? = some (.mapIter (some b) clock seen c0) := by rcases hw1 with rfl | rfl <;> exact hr
   have hb1 : w1.heap[b]? = some (.map es clock) := by rcases hw1 with rfl | rfl <;> exact hbr
   have hne : b ≠ W.heap.size := by omega
   obtain ⟨X, hX⟩ : ∃ X, setBlock w1 W.heap.size (.mapIter (some b) clock (seen.push e.born) clock) = X := ⟨_, rfl⟩
   have hXr : X.heap[W.heap.size]? = some (.mapIter (some b) clock (seen.push e.born) clock) := by rw [<- hX]; exact zcv (zaa hr1) _
   have hXb : X.heap[b]? = some (.map es clock) := by rw [<- hX, zcq hne]; exact hb1
   have hgX : wr.grownBy X (some W.heap.size) := by
    rw [<- hX]; rcases hw1 with rfl | rfl
    ·exact zce _ _ _
    ·have := zce wr.drew W.heap.size (.mapIter (some b) clock (seen.push e.born) clock)
     exact ⟨this.os, this.tape, this.output, this.size, this.block⟩
   rw [hX] at hnext
   have hent := run_entry_at (P := Tryz.prog) X W.heap.size b clock seen es clock e hXr hXb hee (ud HE).once
   obtain ⟨hdm, hk, hv⟩ := dec_at zfa he hee
   have hval : e.val = lseVal ((decE zch L e).2) := hv
   unfold lseVal at hval
   rw [hval] at hnext hent
   have hJX : J ((ps.map (decE zch L)).map (fun p : Tok × Lse => p.2)) X := ud HHJ _ wr X (some W.heap.size) hJs hgX (fun r e => by cases e; exact ⟨Nat.le_refl _, _, hr, rfl⟩)
   obtain ⟨y, hy0⟩ : ∃ y, (decE zch L e).2 = y := ⟨_, rfl⟩
   have HY0 : Hid ((fun p : Tok × Lse => p.2) (decE zch L e) = y) := hy0
   rw [hy0] at hnext hent
   have hba := (Below.refl X.heap.size X).alloc (Nat.le_refl _) (.cells #[int i64 y.kd, int i64 y.s.t, int i64 y.s.ser, int i64 y.s.win, int i64 y.slot, int i64 y.til] 149)
   obtain ⟨fn, tmps, assign, body, hy, hR⟩ := hY ((ps.map (decE zch L)).map (fun p : Tok × Lse => p.2)) y _ (zbf (ud HHJ) hJX hba) (by rw [List.length_map, List.length_map]; have := hC.lt hel; omega)
   have HXR := zac hXr
   have HXB := zac hXb
   have HX := zac hX
   have HHR := zac hr
   clear hrange hC he hXr hXb hX hee hr1 hb1 hv hk hgX hval hr hbr hel hw1 hdm hy0 hba hJ hJx
   gi_wp2
   refine hR.mono ?_
   rintro e3 W3 (⟨rfl, hJ3, hk3⟩ | ⟨rfl, hJx3, hk3⟩)
   ·gi_wp2
    have hr3 := hk3.high W.heap.size _ (by omega) ((Below.heap_alloc _ _ _ (zaa (ud HXR))).trans (ud HXR))
    have hb3 := hk3.walk b _ hex ((Below.heap_alloc _ _ _ (zaa (ud HXB))).trans (ud HXB)) rfl
    go_roundw
    case rel => exact ⟨_, _, ps ++ [e], hr3, Nat.le_refl _, hb3, (ud HC).step (ud HEL), by rw [List.map_append, List.map_append, List.map_singleton, List.map_singleton, ud HY0]; exact hJ3⟩
    case measure => rw [zck hr3, zck (ud HHR)]; exact zfc (ud HEL)
   ·gi_wp2
    refine bodyPost_ret (results_none rfl _ _ _) rfl ?_
    exact ⟨⟨_, rfl⟩, .inr ⟨_, trivial, hJx3⟩⟩
theorem it_lse0 (b : Nat) (w : World) :
  Calls Tryz.prog 79 #[.map (some b)] w fun e w' => e = .returned (.func (.func 131) #[] #[.pointer (some ⟨w.heap.size, 0, none⟩)]) /\ w' = w.alloc (.cells #[.map (some b)] 153) := by
 go_enter Tryz.func79, Tryz.ntmps79
 go_wp2_with fail
 go_ret
 exact ⟨rfl, rfl⟩
theorem it_lse {ex : Nat -> Prop} {n : Nat} (Bm b : Nat) (L : List (Tok × Lse)) (w : World) (hex : ¬ ex b) (hBm : Bm < w.heap.size) (hm : w.cell? ⟨Bm, 0, none⟩ = some (.map (some b))) (hown : zbs zch w b L) :
  SeqF ex n Tryz.prog 131 #[.pointer (some ⟨Bm, 0, none⟩)] (fun x : Lse => #[.agg #[int i64 x.kd, int i64 x.s.t, int i64 x.s.ser, int i64 x.s.win, int i64 x.slot, int i64 x.til]]) (fun xs => ∃ ps : List (Tok × Lse), ps.Perm L /\ xs = ps.map (fun p : Tok × Lse => p.2)) L.length w :=
 fun m hm0 l J Jx W hW hmW hJ hJx hY h0 => it_lse1 l Bm b L hex J Jx W hmW hJ hJx hY ((hW.cell (p := ⟨Bm, 0, none⟩) hBm).trans hm) (hown.later hW) h0
theorem en_lse : ∀ args w, (callFunc 131 args).run Tryz.prog w = .ok (.enter 131 args) w := enters_of Tryz.func131 (by kernel_rfl) rfl
attribute [local go_sem] Oper.semAt_some
set_option maxRecDepth 100000 in
set_option maxHeartbeats 1000000 in
theorem it_tsk1 {α : Type} (tk : α -> Tsk) (mk : Tsk -> α) {ex : Nat -> Prop} {n m : Nat} (l Bm b : Nat) (L : List (Jk × Tsk)) (hmk : ∀ p ∈ L, tk (mk p.2) = p.2) (hex : ¬ ex b) (J Jx : List α -> World -> Prop) (W : World) (hmW : m <= W.heap.size) (hJ : OwnFrom W.heap.size J) (hJx : OwnFrom W.heap.size Jx)
  (hY : ∀ pre x V, J pre V -> pre.length < L.length -> YieldAt Fence.wide 5 Tryz.prog l #[.agg #[.iface (tk x).jt (.agg #[int i64 (tk x).s.t, int i64 (tk x).s.ser, int i64 (tk x).s.win]), int i64 (tk x).since, int i64 (tk x).tries, int i64 (tk x).rest]] V fun e V' => (e = .returned (.bool true) /\ J (pre ++ [x]) V' /\ KX ex n m V V') \/ (e = .returned (.bool false) /\ Jx (pre ++ [x]) V' /\ KX ex n m V V'))
  (hm : W.cell? ⟨Bm, 0, none⟩ = some (.map (some b))) (hown : zbs zcr W b L) (h0 : J [] W) :
  CallsIn Fence.wide 6 Tryz.prog 133 #[.func (.yield l) #[] #[], .pointer (some ⟨Bm, 0, none⟩)] W fun e W' => (∃ v, e = .returned v) /\
   ((∃ xs, (∃ ps : List (Jk × Tsk), ps.Perm L /\ xs = ps.map (fun p : Jk × Tsk => mk p.2)) /\ J xs W') \/ (∃ pre, True /\ Jx pre W')) := by
 obtain ⟨es, clock, hb, he⟩ := hown
 have hbl := zaa hb
 have hrange := run_range_map (P := Tryz.prog) W 154 _ _ b es clock Tryz.underlying154 hb
 have HE := zac he
 have HHJ := zac hJ
 have hsz := he.count
 refine callsIn_of_wp Tryz.func133 rfl trivial ?_ rfl
 simp only [Tryz.ntmps133, List.size_toArray, List.length_cons, List.length_nil, Nat.reduceAdd, Nat.reduceSub, Array.replicate_succ, Array.replicate_zero, List.push_toArray, List.append_toArray, List.nil_append, List.cons_append]
 gi_wp2
 gi_loopw [4] (fun _ wr => ∃ (seen : Array Nat) (c0 : Nat) (ps : List MapEntry), wr.heap[W.heap.size]? = some (.mapIter (some b) clock seen c0) /\ clock <= c0 /\ wr.heap[b]? = some (.map es clock) /\ Come es seen ps /\ J ((ps.map (decE zcr L)).map (fun p : Jk × Tsk => mk p.2)) wr)
  (fun _ wr => leftAt es W.heap.size wr)
 case atStart =>
  exact ⟨#[], clock, [], zag _ _, Nat.le_refl _, (Below.heap_alloc _ _ _ hbl).trans hb, ⟨by simp, by simp, by simp⟩, zbf (ud HHJ) h0 ((Below.refl _ _).alloc (Nat.le_refl _) _)⟩
 case round =>
  obtain ⟨seen, c0, ps, hr, hc0, hbr, hC, hJs⟩ := hrel
  have hrl := zaa hr
  have HC := zac hC
  rcases run_next_at (P := Tryz.prog) wr 0 W.heap.size b clock c0 seen es clock hr hbr (ud HE).born hc0 with ⟨hz, hnext⟩ | ⟨e, hel, w1, hw1, hnext⟩
  ·have HZ := zac hz
   clear hrange hz hC he hJ hJx
   gi_wp2
   go_end0
   exact ⟨⟨_, rfl⟩, .inl ⟨_, ⟨_, dec_perm zfe (ud HE) ((ud HC).all (ud HE).once (ud HZ)), rfl⟩, hJs⟩⟩
  ·have HEL := zac hel
   obtain ⟨hee, _⟩ := zcn.1 hel
   have hr1 : w1.heap[W.heap.size]? = some (.mapIter (some b) clock seen c0) := by rcases hw1 with rfl | rfl <;> exact hr
   have hb1 : w1.heap[b]? = some (.map es clock) := by rcases hw1 with rfl | rfl <;> exact hbr
   have hne : b ≠ W.heap.size := by omega
   obtain ⟨X, hX⟩ : ∃ X, setBlock w1 W.heap.size (.mapIter (some b) clock (seen.push e.born) clock) = X := ⟨_, rfl⟩
   have hXr : X.heap[W.heap.size]? = some (.mapIter (some b) clock (seen.push e.born) clock) := by rw [<- hX]; exact zcv (zaa hr1) _
   have hXb : X.heap[b]? = some (.map es clock) := by rw [<- hX, zcq hne]; exact hb1
   have hgX : wr.grownBy X (some W.heap.size) := by
    rw [<- hX]; rcases hw1 with rfl | rfl
    ·exact zce _ _ _
    ·have := zce wr.drew W.heap.size (.mapIter (some b) clock (seen.push e.born) clock)
     exact ⟨this.os, this.tape, this.output, this.size, this.block⟩
   rw [hX] at hnext
   have hent := run_entry_at (P := Tryz.prog) X W.heap.size b clock seen es clock e hXr hXb hee (ud HE).once
   obtain ⟨hdm, hk, hv⟩ := dec_at zfe he hee
   have hval : e.val = tskVal (tk (mk (decE zcr L e).2)) := by rw [hmk _ hdm]; exact hv
   unfold tskVal at hval
   rw [hval] at hnext hent
   have hJX : J ((ps.map (decE zcr L)).map (fun p : Jk × Tsk => mk p.2)) X := ud HHJ _ wr X (some W.heap.size) hJs hgX (fun r e => by cases e; exact ⟨Nat.le_refl _, _, hr, rfl⟩)
   obtain ⟨y, hy0⟩ : ∃ y, mk (decE zcr L e).2 = y := ⟨_, rfl⟩
   have HY0 : Hid ((fun p : Jk × Tsk => mk p.2) (decE zcr L e) = y) := hy0
   rw [hy0] at hnext hent
   have hba := (Below.refl X.heap.size X).alloc (Nat.le_refl _) (.cells #[.iface (tk y).jt (.agg #[int i64 (tk y).s.t, int i64 (tk y).s.ser, int i64 (tk y).s.win]), int i64 (tk y).since, int i64 (tk y).tries, int i64 (tk y).rest] 162)
   obtain ⟨fn, tmps, assign, body, hy, hR⟩ := hY ((ps.map (decE zcr L)).map (fun p : Jk × Tsk => mk p.2)) y _ (zbf (ud HHJ) hJX hba) (by rw [List.length_map, List.length_map]; have := hC.lt hel; omega)
   have HXR := zac hXr
   have HXB := zac hXb
   have HX := zac hX
   have HHR := zac hr
   clear hrange hC he hXr hXb hX hee hr1 hb1 hv hk hgX hval hr hbr hel hw1 hdm hy0 hba hJ hJx
   gi_wp2
   refine hR.mono ?_
   rintro e3 W3 (⟨rfl, hJ3, hk3⟩ | ⟨rfl, hJx3, hk3⟩)
   ·gi_wp2
    have hr3 := hk3.high W.heap.size _ (by omega) ((Below.heap_alloc _ _ _ (zaa (ud HXR))).trans (ud HXR))
    have hb3 := hk3.walk b _ hex ((Below.heap_alloc _ _ _ (zaa (ud HXB))).trans (ud HXB)) rfl
    go_roundw
    case rel => exact ⟨_, _, ps ++ [e], hr3, Nat.le_refl _, hb3, (ud HC).step (ud HEL), by rw [List.map_append, List.map_append, List.map_singleton, List.map_singleton, ud HY0]; exact hJ3⟩
    case measure => rw [zck hr3, zck (ud HHR)]; exact zfc (ud HEL)
   ·gi_wp2
    refine bodyPost_ret (results_none rfl _ _ _) rfl ?_
    exact ⟨⟨_, rfl⟩, .inr ⟨_, trivial, hJx3⟩⟩
theorem it_tsk0 (b : Nat) (w : World) :
  Calls Tryz.prog 82 #[.map (some b)] w fun e w' => e = .returned (.func (.func 133) #[] #[.pointer (some ⟨w.heap.size, 0, none⟩)]) /\ w' = w.alloc (.cells #[.map (some b)] 154) := by
 go_enter Tryz.func82, Tryz.ntmps82
 go_wp2_with fail
 go_ret
 exact ⟨rfl, rfl⟩
theorem it_tsk {α : Type} (tk : α -> Tsk) (mk : Tsk -> α) {ex : Nat -> Prop} {n : Nat} (Bm b : Nat) (L : List (Jk × Tsk)) (hmk : ∀ p ∈ L, tk (mk p.2) = p.2) (w : World) (hex : ¬ ex b) (hBm : Bm < w.heap.size) (hm : w.cell? ⟨Bm, 0, none⟩ = some (.map (some b))) (hown : zbs zcr w b L) :
  SeqF ex n Tryz.prog 133 #[.pointer (some ⟨Bm, 0, none⟩)] (fun x : α => #[.agg #[.iface (tk x).jt (.agg #[int i64 (tk x).s.t, int i64 (tk x).s.ser, int i64 (tk x).s.win]), int i64 (tk x).since, int i64 (tk x).tries, int i64 (tk x).rest]]) (fun xs => ∃ ps : List (Jk × Tsk), ps.Perm L /\ xs = ps.map (fun p : Jk × Tsk => mk p.2)) L.length w :=
 fun m hm0 l J Jx W hW hmW hJ hJx hY h0 => it_tsk1 tk mk l Bm b L hmk hex J Jx W hmW hJ hJx hY ((hW.cell (p := ⟨Bm, 0, none⟩) hBm).trans hm) (hown.later hW) h0
theorem en_tsk : ∀ args w, (callFunc 133 args).run Tryz.prog w = .ok (.enter 133 args) w := enters_of Tryz.func133 (by kernel_rfl) rfl
attribute [local go_sem] Oper.semAt_some
set_option maxRecDepth 100000 in
set_option maxHeartbeats 1000000 in
theorem itw_tsk1 {α : Type} (tk : α -> Tsk) (mk : Tsk -> α) (l Bm b : Nat) (L : List (Jk × Tsk)) (hmk : ∀ p ∈ L, tk (mk p.2) = p.2) (J Jx : List α -> World -> Prop) (W : World) (hJ : OwnFrom W.heap.size J) (hJx : OwnFrom W.heap.size Jx)
  (hY : ∀ pre x V, J pre V -> pre.length < L.length -> YieldAt Fence.wide 5 Tryz.prog l #[.agg #[.iface (tk x).jt (.agg #[int i64 (tk x).s.t, int i64 (tk x).s.ser, int i64 (tk x).s.win]), int i64 (tk x).since, int i64 (tk x).tries, int i64 (tk x).rest]] V fun e V' => (e = .returned (.bool true) /\ J (pre ++ [x]) V' /\ KeepsWalks V V') \/ (e = .returned (.bool false) /\ Jx (pre ++ [x]) V' /\ KeepsWalks V V'))
  (hm : W.cell? ⟨Bm, 0, none⟩ = some (.map (some b))) (hown : zbs zcr W b L) (h0 : J [] W) :
  CallsIn Fence.wide 6 Tryz.prog 133 #[.func (.yield l) #[] #[], .pointer (some ⟨Bm, 0, none⟩)] W fun e W' => (∃ v, e = .returned v) /\
   ((∃ xs, (∃ ps : List (Jk × Tsk), ps.Perm L /\ xs = ps.map (fun p : Jk × Tsk => mk p.2)) /\ J xs W') \/ (∃ pre, True /\ Jx pre W')) := by
 obtain ⟨es, clock, hb, he⟩ := hown
 have hbl := zaa hb
 have hrange := run_range_map (P := Tryz.prog) W 154 _ _ b es clock Tryz.underlying154 hb
 have HE := zac he
 have HHJ := zac hJ
 have hsz := he.count
 refine callsIn_of_wp Tryz.func133 rfl trivial ?_ rfl
 simp only [Tryz.ntmps133, List.size_toArray, List.length_cons, List.length_nil, Nat.reduceAdd, Nat.reduceSub, Array.replicate_succ, Array.replicate_zero, List.push_toArray, List.append_toArray, List.nil_append, List.cons_append]
 gi_wp2
 gi_loopw [4] (fun _ wr => ∃ (seen : Array Nat) (c0 : Nat) (ps : List MapEntry), wr.heap[W.heap.size]? = some (.mapIter (some b) clock seen c0) /\ clock <= c0 /\ wr.heap[b]? = some (.map es clock) /\ Come es seen ps /\ J ((ps.map (decE zcr L)).map (fun p : Jk × Tsk => mk p.2)) wr)
  (fun _ wr => leftAt es W.heap.size wr)
 case atStart =>
  exact ⟨#[], clock, [], zag _ _, Nat.le_refl _, (Below.heap_alloc _ _ _ hbl).trans hb, ⟨by simp, by simp, by simp⟩, zbf (ud HHJ) h0 ((Below.refl _ _).alloc (Nat.le_refl _) _)⟩
 case round =>
  obtain ⟨seen, c0, ps, hr, hc0, hbr, hC, hJs⟩ := hrel
  have hrl := zaa hr
  have HC := zac hC
  rcases run_next_at (P := Tryz.prog) wr 0 W.heap.size b clock c0 seen es clock hr hbr (ud HE).born hc0 with ⟨hz, hnext⟩ | ⟨e, hel, w1, hw1, hnext⟩
  ·have HZ := zac hz
   clear hrange hz hC he hJ hJx
   gi_wp2
   go_end0
   exact ⟨⟨_, rfl⟩, .inl ⟨_, ⟨_, dec_perm zfe (ud HE) ((ud HC).all (ud HE).once (ud HZ)), rfl⟩, hJs⟩⟩
  ·have HEL := zac hel
   obtain ⟨hee, _⟩ := zcn.1 hel
   have hr1 : w1.heap[W.heap.size]? = some (.mapIter (some b) clock seen c0) := by rcases hw1 with rfl | rfl <;> exact hr
   have hb1 : w1.heap[b]? = some (.map es clock) := by rcases hw1 with rfl | rfl <;> exact hbr
   have hne : b ≠ W.heap.size := by omega
   obtain ⟨X, hX⟩ : ∃ X, setBlock w1 W.heap.size (.mapIter (some b) clock (seen.push e.born) clock) = X := ⟨_, rfl⟩
   have hXr : X.heap[W.heap.size]? = some (.mapIter (some b) clock (seen.push e.born) clock) := by rw [<- hX]; exact zcv (zaa hr1) _
   have hXb : X.heap[b]? = some (.map es clock) := by rw [<- hX, zcq hne]; exact hb1
   have hgX : wr.grownBy X (some W.heap.size) := by
    rw [<- hX]; rcases hw1 with rfl | rfl
    ·exact zce _ _ _
    ·have := zce wr.drew W.heap.size (.mapIter (some b) clock (seen.push e.born) clock)
     exact ⟨this.os, this.tape, this.output, this.size, this.block⟩
   rw [hX] at hnext
   have hent := run_entry_at (P := Tryz.prog) X W.heap.size b clock seen es clock e hXr hXb hee (ud HE).once
   obtain ⟨hdm, hk, hv⟩ := dec_at zfe he hee
   have hval : e.val = tskVal (tk (mk (decE zcr L e).2)) := by rw [hmk _ hdm]; exact hv
   unfold tskVal at hval
   rw [hval] at hnext hent
   have hJX : J ((ps.map (decE zcr L)).map (fun p : Jk × Tsk => mk p.2)) X := ud HHJ _ wr X (some W.heap.size) hJs hgX (fun r e => by cases e; exact ⟨Nat.le_refl _, _, hr, rfl⟩)
   obtain ⟨y, hy0⟩ : ∃ y, mk (decE zcr L e).2 = y := ⟨_, rfl⟩
   have HY0 : Hid ((fun p : Jk × Tsk => mk p.2) (decE zcr L e) = y) := hy0
   rw [hy0] at hnext hent
   have hba := (Below.refl X.heap.size X).alloc (Nat.le_refl _) (.cells #[.iface (tk y).jt (.agg #[int i64 (tk y).s.t, int i64 (tk y).s.ser, int i64 (tk y).s.win]), int i64 (tk y).since, int i64 (tk y).tries, int i64 (tk y).rest] 162)
   obtain ⟨fn, tmps, assign, body, hy, hR⟩ := hY ((ps.map (decE zcr L)).map (fun p : Jk × Tsk => mk p.2)) y _ (zbf (ud HHJ) hJX hba) (by rw [List.length_map, List.length_map]; have := hC.lt hel; omega)
   have HXR := zac hXr
   have HXB := zac hXb
   have HX := zac hX
   have HHR := zac hr
   clear hrange hC he hXr hXb hX hee hr1 hb1 hv hk hgX hval hr hbr hel hw1 hdm hy0 hba hJ hJx
   gi_wp2
   refine hR.mono ?_
   rintro e3 W3 (⟨rfl, hJ3, hk3⟩ | ⟨rfl, hJx3, hk3⟩)
   ·gi_wp2
    have hr3 := hk3.same W.heap.size _ ((Below.heap_alloc _ _ _ (zaa (ud HXR))).trans (ud HXR)) rfl
    have hb3 := hk3.same b _ ((Below.heap_alloc _ _ _ (zaa (ud HXB))).trans (ud HXB)) rfl
    go_roundw
    case rel => exact ⟨_, _, ps ++ [e], hr3, Nat.le_refl _, hb3, (ud HC).step (ud HEL), by rw [List.map_append, List.map_append, List.map_singleton, List.map_singleton, ud HY0]; exact hJ3⟩
    case measure => rw [zck hr3, zck (ud HHR)]; exact zfc (ud HEL)
   ·gi_wp2
    refine bodyPost_ret (results_none rfl _ _ _) rfl ?_
    exact ⟨⟨_, rfl⟩, .inr ⟨_, trivial, hJx3⟩⟩
theorem itw_tsk {α : Type} (tk : α -> Tsk) (mk : Tsk -> α) (Bm b : Nat) (L : List (Jk × Tsk)) (hmk : ∀ p ∈ L, tk (mk p.2) = p.2) (w : World) (hBm : Bm < w.heap.size) (hm : w.cell? ⟨Bm, 0, none⟩ = some (.map (some b))) (hown : zbs zcr w b L) :
  SeqO Fence.wide 6 Tryz.prog 133 #[.pointer (some ⟨Bm, 0, none⟩)] (fun x : α => #[.agg #[.iface (tk x).jt (.agg #[int i64 (tk x).s.t, int i64 (tk x).s.ser, int i64 (tk x).s.win]), int i64 (tk x).since, int i64 (tk x).tries, int i64 (tk x).rest]]) KeepsWalks (fun xs => ∃ ps : List (Jk × Tsk), ps.Perm L /\ xs = ps.map (fun p : Jk × Tsk => mk p.2)) (fun _ => True) L.length 0 w :=
 fun l J Jx W hW _ hJ hJx hY h0 => itw_tsk1 tk mk l Bm b L hmk J Jx W hJ hJx hY ((hW.cell (p := ⟨Bm, 0, none⟩) hBm).trans hm) (hown.later hW) h0
def tsk4 (x : Tsk) : List Value := [.iface x.jt (.agg #[int i64 x.s.t, int i64 x.s.ser, int i64 x.s.win]), int i64 x.since, int i64 x.tries, int i64 x.rest]
theorem tsk4_one (x : Tsk) : ∀ v ∈ tsk4 x, v.oneCell' = true := fun v hv => by
 simp only [tsk4, List.mem_cons, List.not_mem_nil, or_false] at hv
 rcases hv with rfl | rfl | rfl | rfl <;> rfl
theorem owns_own {W W' : World} {row : Option Nat} {base : Nat} {e : TypeId} {size : Nat} {v : Value} {k : Nat} {xs : List Value} (h : W.ownsRow base e size v k xs) (hg : W.grownBy W' row) (hr : ∀ r, row = some r -> ∃ o : Obj, W.heap[r]? = some o /\ o.isCells = false) : W'.ownsRow base e size v k xs := by
 refine h.kept hg ?_
 rcases h.2 with ⟨rfl, _⟩ | ⟨g, cap, cur, rfl, _, hgb, _⟩
 ·exact .inl rfl
 ·refine .inr fun e' => ?_
  obtain ⟨o, ho, hw⟩ := hr g (by simpa [Value.ownBlock] using e'.symm)
  rw [hgb] at ho; cases ho; cases hw
end Go.Proofs.YtpbimdkclnekeaaGreat

namespace Go.Proofs.YtpbimdkclnekeaaGreat
open Value (int)
open IntKind (i64)
open Go.RowKit Go.Maps Go.Shelf
set_option linter.unusedVariables false
attribute [local go_sem] Oper.semAt_some
theorem ap_info0 : (Tryz.prog.info? 162).map (fun i => (i.zero, i.size, i.bytes)) = some (some (.agg #[.nilIface, int i64 0, int i64 0, int i64 0]), 4, 40) := by kernel_rfl
theorem ap_info : ∃ i : TypeInfo, Tryz.prog.info? 162 = some i /\ i.zero = some (.agg #[.nilIface, int i64 0, int i64 0, int i64 0]) /\ i.size = 4 /\ i.bytes = 40 := by
 have h := ap_info0
 cases hq : Tryz.prog.info? 162 with
 | none => simp [hq] at h
 | some i =>
  simp only [hq, Option.map_some, Option.some.injEq, Prod.mk.injEq] at h
  exact ⟨i, rfl, h.1, h.2.1, h.2.2⟩
def apI (w : World) (pre : List Tsk) (W : World) : Prop := ∃ v, W.heap[w.heap.size]? = some (.cells #[v] 171 (0, 0)) /\ W.ownsRow w.heap.size 162 4 v pre.length (pre.flatMap tsk4) /\ Below w.heap.size w W
theorem apI.later {w : World} {pre : List Tsk} {W W' : World} (h : apI w pre W) (hb : Below W.heap.size W W') : apI w pre W' := by
 obtain ⟨v, h1, h2, h3⟩ := h
 exact ⟨v, (hb.block _ (zaa h1)).trans h1, zah h2 (zaj.of_below (f := fun _ => False) hb) (fun _ _ e => e), h3.trans (hb.mono h3.size)⟩
theorem grow_keeps {W w3 : World} {base : Nat} {e : TypeId} {size : Nat} {v : Value} {n : Nat} {xs : List Value} (hr : W.ownsRow base e size v n xs) (hg : W.grownBy w3 v.ownBlock) (B : Nat) : KeepsFrom B W w3 /\ KeepsWalks W w3 := by
 have key : ∀ (k : Nat) (o : Obj), W.heap[k]? = some o -> o.isCells = false -> w3.heap[k]? = some o := fun k o hk ho => (hg.block k (zaa hk) (fun e => by
  rcases hr.2 with ⟨rfl, _⟩ | ⟨g, cap, cur, rfl, _, hgb, _⟩
  ·simp [Value.ownBlock] at e
  ·have : k = g := by simpa [Value.ownBlock] using e
   subst this; rw [hgb] at hk; cases hk; cases ho)).trans hk
 exact ⟨⟨hg.size, fun k o _ hk ho => key k o hk ho⟩, ⟨hg.size, fun k o hk ho => key k o hk (Obj.not_cells_of_walk ho)⟩⟩
theorem push_tskIn {F : Fence} {n : Nat} {W : World} {ops : Array Oper} {rest : List Oper} {o : Oper} {a : Act} {Q : Exit -> Act -> World -> Prop} (hgd : o.guard = none) (s x : Operand)
  (ho : o.op = .call { callee := .builtin .append, args := #[s, x], argTypes := #[171, 171] }) (base : Nat) (v : Value) (l : List Tsk) (f : Tsk) (hs : a.eval s = v) (hown : W.ownsRow base 162 4 v l.length (l.flatMap tsk4))
  (B1 : Nat) (hx : a.eval x = .slice (some ⟨B1, 0, none⟩) 1 1) (hB1 : W.heap[B1]? = some (.cells #[.iface f.jt (.agg #[int i64 f.s.t, int i64 f.s.ser, int i64 f.s.win]), int i64 f.since, int i64 f.tries, int i64 f.rest] 162 (0, 0))) (hl : l.length <= 1000000) (hbase : base <= W.heap.size)
  (h : ∀ g cap w', w'.ownsRow base 162 4 (.slice (some ⟨g, 0, none⟩) (l.length + 1) cap) (l ++ [f]).length ((l ++ [f]).flatMap tsk4) -> W.grownBy w' v.ownBlock -> g < w'.heap.size -> wpListIn F n Tryz.prog ops Q rest (a.put o.dst (.slice (some ⟨g, 0, none⟩) (l.length + 1) cap)) w') : wpListIn F n Tryz.prog ops Q (o :: rest) a W := by
 obtain ⟨i0, hi, hi1, hi2, hi3⟩ := ap_info
 refine wpListIn_append_own_at W hgd s x 171 ho base 162 i0 (.agg #[.nilIface, int i64 0, int i64 0, int i64 0]) 4 40 Tryz.underlying171 hi hi1 hi2 hi3 rfl (by decide) v l.length _ hs hown ⟨B1, 0, none⟩ 1 1 (tsk4 f) hx rfl (World.news_of_block (cs := (tsk4 f).toArray) hB1) (tsk4_one f) (by simp only [maxLen]; omega) (by omega) hbase ?_
 intro v' w3 hown' hg3 hnil3 hwh3
 obtain ⟨g', cap', rfl, hbg', hlg'⟩ := hown'.form (by omega)
 exact h g' cap' w3 (flat_row hown') hg3 hlg'
set_option maxRecDepth 100000 in
set_option maxHeartbeats 2000000 in
theorem apseq_any (gf : Nat) (lb : Array Value) (eg : ∀ args w, (callFunc gf args).run Tryz.prog w = .ok (.enter gf args) w) {N : Nat} {S : List Tsk -> Prop} (w : World) (hN : N <= 1000000)
  (hseq : SeqO Fence.wide 6 Tryz.prog gf lb (fun x : Tsk => #[.agg #[.iface x.jt (.agg #[int i64 x.s.t, int i64 x.s.ser, int i64 x.s.win]), int i64 x.since, int i64 x.tries, int i64 x.rest]]) KeepsWalks S (fun _ => True) N 0 w) :
  Calls Tryz.prog 178 #[.slice none 0 0, .func (.func gf) #[] lb] w fun e w' => ∃ xs v, S xs /\ e = .returned v /\ w'.ownsRow w.heap.size 162 4 v xs.length (xs.flatMap tsk4) /\ Below w.heap.size w w' := by
 have HSEQ := zac hseq
 have HEG := zac eg
 have b1 := zag w (.cells #[.slice none 0 0] 171)
 have bz := zbm w (.cells #[.slice none 0 0] 171)
 have hbw : Below w.heap.size w (w.alloc (.cells #[.slice none 0 0] 171)) := (Below.refl _ _).alloc (Nat.le_refl _) _
 clear hseq eg
 refine (callsIn_wide (n := 7)).1 ?_
 refine callsIn_of_wp_marks Tryz.func178 rfl trivial ?_ rfl
 simp only [Tryz.ntmps178, List.size_toArray, List.length_cons, List.length_nil, Nat.reduceAdd, Nat.reduceSub, Array.replicate_succ, Array.replicate_zero, List.push_toArray, List.append_toArray, List.nil_append, List.cons_append]
 have B1 := zac b1
 have HBW := zac hbw
 have BZ := zac bz
 clear b1 hbw bz
 gi_wp2
 obtain ⟨W0, hW0⟩ : ∃ W0, (w.alloc (.cells #[.slice none 0 0] 171)) = W0 := ⟨_, rfl⟩
 rw [hW0] at B1 HBW BZ ⊢
 clear hW0
 have hz : W0.heap.size = w.heap.size + 1 := ud BZ
 refine zez (F := Fence.wide) (n := 7) rfl (by omega) (gf := gf) (lb := lb) rfl trivial (ud HEG) (ud HSEQ) (by omega) (fun h k => h.trans k) (fun W o o' h hc hw => KeepsWalks.putObj _ h hw) (ud HBW) (fun _ => rfl)
  (apI w) (fun _ _ _ => False)
  (fun s A B row hs hg hr => by
   obtain ⟨v, h1, h2, h3⟩ := hs
   exact ⟨v, zap h1 hg (fun r e => (hr r e).2), owns_own h2 hg (fun r e => (hr r e).2), h3.grown hg h3.size (fun k e => by have := (hr k e).1; omega)⟩)
  (fun _ _ _ _ _ hs _ _ => hs)
  ⟨_, ud B1, ⟨rfl, .inl ⟨rfl, rfl⟩⟩, ud HBW⟩
  (fun x a' W => ∃ Bx, w.heap.size + 1 <= Bx /\ W.heap[Bx]? = some (.cells #[.iface x.jt (.agg #[int i64 x.s.t, int i64 x.s.ser, int i64 x.s.win]), int i64 x.since, int i64 x.tries, int i64 x.rest] 162 (0, 0)) /\ a' = { tmps := #[.slice none 0 0, .func (.func gf) #[] lb, .pointer (some ⟨w.heap.size, 0, none⟩), undef, .slice none 0 0, .pointer (some ⟨Bx, 0, none⟩), .func (.func gf) #[] lb, .agg #[.iface x.jt (.agg #[int i64 x.s.t, int i64 x.s.ser, int i64 x.s.win]), int i64 x.since, int i64 x.tries, int i64 x.rest], undef, undef, undef, undef, undef], defers := [] })
  (fun x a' s A B row hs hg hr => by
   obtain ⟨Bx, h1, h2, h3⟩ := hs
   exact ⟨Bx, h1, zap h2 hg (fun r e => (hr r e).2), h3⟩) ?assign ?body ?done ?stop
 case assign =>
  rintro l pre x W K hI hK
  have HK := zac hK
  have HI := zac hI
  clear hK hI
  gi_wp2
  have hba := (Below.refl W.heap.size W).alloc (Nat.le_refl _) (.cells #[.iface x.jt (.agg #[int i64 x.s.t, int i64 x.s.ser, int i64 x.s.win]), int i64 x.since, int i64 x.tries, int i64 x.rest] 162)
  have hwz : w.heap.size < W.heap.size := by obtain ⟨v, h1, h2, h3⟩ := ud HI; exact zaa h1
  exact ud HK _ _ (zaf hba) (KeepsWalks.alloc _ _) ((ud HI).later hba) ⟨W.heap.size, by omega, zag _ _, rfl⟩
 case body =>
  rintro l pre x a' W hl ⟨r, hr⟩ ⟨v, i1, i2, i3⟩ ⟨Bx, hBx, hx, rfl⟩ hlt
  obtain ⟨va, vc, rfl⟩ := zbt i2
  have hsz := zaa i1
  have hxz := zaa hx
  have c1 : W.cell? ⟨w.heap.size, 0, none⟩ = some (.slice va pre.length vc) := by rw [zab i1]; rfl
  have x0 : W.cell? ⟨Bx, 0, none⟩ = some (.iface x.jt (.agg #[int i64 x.s.t, int i64 x.s.ser, int i64 x.s.win])) := by rw [zab hx]; rfl
  have x1 : W.cell? ⟨Bx, 1, none⟩ = some (int i64 x.since) := by rw [zab hx]; rfl
  have x2 : W.cell? ⟨Bx, 2, none⟩ = some (int i64 x.tries) := by rw [zab hx]; rfl
  have x3 : W.cell? ⟨Bx, 3, none⟩ = some (int i64 x.rest) := by rw [zab hx]; rfl
  have HI1 := zac i1
  have HI2 := zac i2
  have HI3 := zac i3
  have HX := zac hx
  clear i1 i2 i3 hx hr
  gi_wp2_with (first
   | (gi_at_builtin; refine push_tskIn rfl _ _ rfl w.heap.size _ pre x rfl ((ud HI2).alloc _) W.heap.size rfl (zag _ _) (by omega) (by rw [zbm]; omega) ?_; intro g' cap' w3 hown' hg3 hlg'
      have hk3 := grow_keeps ((ud HI2).alloc (.cells #[.iface x.jt (.agg #[int i64 x.s.t, int i64 x.s.ser, int i64 x.s.win]), int i64 x.since, int i64 x.tries, int i64 x.rest] 162)) hg3 W0.heap.size
      have b3 : w3.heap[w.heap.size]? = some (.cells #[.slice va pre.length vc] 171 (0, 0)) := (hg3.block w.heap.size (by rw [zbm]; omega) (fun e => zar (ud HI1) (ud HI2) (by decide) w.heap.size e.symm rfl)).trans ((Below.heap_alloc _ _ _ hsz).trans (ud HI1))
      have d1 : w3.cell? ⟨w.heap.size, 0, none⟩ = some (.slice va pre.length vc) := (by rw [zab b3]; rfl)
      have f1 : w3.frozen? ⟨w.heap.size, 0, none⟩ = false := zax b3 0
      have hsz3 := zaa b3
      have HO3 := zac hown'
      have HG3 := zac hg3
      have HK3 := zac hk3
      have HB3 := zac b3
      clear hown' hg3 hk3 b3
      go_frame)
   | gi_in)
  have hk := ud HK3
  have hg : (W.alloc (.cells #[.iface x.jt (.agg #[int i64 x.s.t, int i64 x.s.ser, int i64 x.s.win]), int i64 x.since, int i64 x.tries, int i64 x.rest] 162)).grownBy w3 (Value.slice va pre.length vc).ownBlock := ud HG3
  have hown := ud HO3
  have hb := ud HI3
  have hba := (Below.refl W.heap.size W).alloc (Nat.le_refl _) (.cells #[.iface x.jt (.agg #[int i64 x.s.t, int i64 x.s.ser, int i64 x.s.win]), int i64 x.since, int i64 x.tries, int i64 x.rest] 162)
  have hb3 : Below w.heap.size w w3 := (hb.alloc hb.size _).grown hg (by have := hb.size; rw [zbm]; omega) (fun k e => ((ud HI2).lt k e).1)
  refine ⟨((zaf hba).trans hk.1).trans ((KeepsOthers.setCell w3 ⟨w.heap.size, 0, none⟩ _).from _), ((KeepsWalks.alloc _ _).trans hk.2).trans (KeepsWalks.setCell _ _ _), ?_⟩
  exact ⟨_, zcu (i := 0) (ud HB3) _, zah hown (zae (f := fun k => k = w.heap.size) (zaj.refl _ _) rfl) (fun k hk' e => zar (ud HB3) hown (by decide) k hk' e), hb3.setCell (p := ⟨w.heap.size, 0, none⟩) (Nat.le_refl _) _⟩
 case done =>
  rintro D xs W hD hS ⟨v, i1, i2, i3⟩ hK
  obtain ⟨va, vc, rfl⟩ := zbt i2
  have c2 : W.cell? ⟨w.heap.size, 0, none⟩ = some (.slice va xs.length vc) := by rw [zab i1]; rfl
  have HI2 := zac i2
  have HI3 := zac i3
  clear i1 i2 i3
  gi_wp2
  refine ⟨by simp, .inl ⟨_, _, rfl, run_takeDeferred hK, ?_⟩⟩
  exact ⟨_, results_tmp rfl _ _ _, xs, _, hS, rfl, owns_own (ud HI2) (grownBy_putObj' _ _ _) (fun r e => by cases e; exact ⟨_, hK, rfl⟩), zcj (ud HI3) (Nat.le_refl _) (by omega) hK _⟩
 case stop =>
  rintro D c pre W _ _ h _
  exact h.elim
end Go.Proofs.YtpbimdkclnekeaaGreat
