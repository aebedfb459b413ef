import Derived.Test.YtgadceofpbfleaaGreatQMil0
import Derived.Test.YtgadceofpbfleaaGreatQMil2
import Derived.Test.YtgadceofpbfleaaGreatQMil3
import Derived.Test.YtgadceofpbfleaaGreatQOpn1
import Derived.Test.YtgadceofpbfleaaGreatQRefJ
import Derived.Test.YtgadceofpbfleaaGreatQOps0

/- The statement's post in memory; walks: num, tells, token, called, done. -/
namespace Go.Proofs.YtgadceofpbfleaaGreat
open Go.RowKit Go.Maps Go.Shelf
set_option linter.unusedVariables false

/-- a post at block po: the program's mill at x, its disk at d; what it may be like in the list mv. -/
def postObj (x d : Nat) (c : Cf) (ct mv : Value) (ep : Int) : Obj := .cells #[.pointer (some ⟨x, 0, none⟩), .pointer (some ⟨d, 0, none⟩), .int .i64 c.s, .int .i64 c.le, .int .i64 c.la, .int .i64 c.wi, .int .i64 c.ke, .int .i64 c.qu, ct, mv, .slice none 0 0, .slice none 0 0, .int .i64 ep, .bool false, .bool false] 54 (0, 0)

theorem MillAt.foot_lt {w : World} {x : Nat} {c : Cf} {tv : Value} {ep now : Int} {s lb gb : Nat} {L : LV} (h : MillAt w x c tv ep now s lb gb L) : ∀ k, mfoot x s tv lb gb k → k < w.heap.size := fun k hk => by
  rcases hk with rfl | rfl | hk | rfl | rfl
  · exact h.lt
  · exact h.set.lt
  · exact own_lt h.set.trow k hk
  · exact h.set.live.lt
  · exact lt_of_heap h.set.gone
theorem z11_set {w : World} {g : Nat} {t : TypeId} {fr : Nat × Nat} (i : Nat) (h : w.heap[g]? = some (.cells #[.int .i64 0, .int .i64 0, .int .i64 0, .int .i64 0, .int .i64 0, .int .i64 0, .int .i64 0, .int .i64 0, .int .i64 0, .int .i64 0, .int .i64 0] t fr)) : (w.setCell ⟨g, i, none⟩ (.int .i64 0)).heap[g]? = some (.cells #[.int .i64 0, .int .i64 0, .int .i64 0, .int .i64 0, .int .i64 0, .int .i64 0, .int .i64 0, .int .i64 0, .int .i64 0, .int .i64 0, .int .i64 0] t fr) := by
  have e : (#[.int .i64 0, .int .i64 0, .int .i64 0, .int .i64 0, .int .i64 0, .int .i64 0, .int .i64 0, .int .i64 0, .int .i64 0, .int .i64 0, .int .i64 0] : Array Value).setIfInBounds i (.int .i64 0) = #[.int .i64 0, .int .i64 0, .int .i64 0, .int .i64 0, .int .i64 0, .int .i64 0, .int .i64 0, .int .i64 0, .int .i64 0, .int .i64 0, .int .i64 0] := by
    rcases i with _ | _ | _ | _ | _ | _ | _ | _ | _ | _ | _ | i <;> first | rfl | simp [Array.setIfInBounds]
  have := rset (i := i) h (.int .i64 0)
  rw [e] at this; exact this

set_option maxHeartbeats 2000000 in
theorem tells_any {w : World} {po x d : Nat} {c : Cf} {tv ct mv : Value} {ep now eo : Int} {s lb gb : Nat} {L : LV} (h : MillAt w x c tv ep now s lb gb L) (hc : c.ok) (hu : 0 ≤ usedL L ∧ usedL L ≤ 1000000000000) (h1 : i64B (countL L 1)) (h2 : i64B (countL L 2)) (h3 : i64B (countL L 3)) (c' : Cf) (hp : w.heap[po]? = some (postObj x d c' ct mv eo)) :
    Calls Tryz.prog 15 #[.pointer (some ⟨po, 0, none⟩), .pointer (some ⟨x, 0, none⟩)] w fun e w' => e = .returned (.bool (decide (eo < ep))) ∧ w'.heap[po]? = some (postObj x d c' ct mv ep) ∧ Kept (fun k => k = po) w w' := by
  have HST := hide (pstats_any h hc hu h1 h2 h3)
  generalize usedL L = U at *
  generalize countL L 1 = A1 at *
  generalize countL L 2 = A2 at *
  generalize countL L 3 = A3 at *
  generalize tightN U c.qu = T at *
  have hpl := lt_of_heap hp
  have HP := hide hp
  clear h hp h1 h2 h3 hu
  go_enter Tryz.func15, Tryz.ntmps15
  go_wp2_with fail
  refine (unhide HST).mono ?_
  rintro e w1 ⟨rfl, hb1⟩
  have hp1 := (hb1.block po hpl).trans (unhide HP)
  have p12 : w1.cell? ⟨po, 12, none⟩ = some (.int .i64 eo) := by unfold postObj at hp1; rw [rcell hp1]; rfl
  have pf : ∀ j, w1.frozen? ⟨po, j, none⟩ = false := fun j => by unfold postObj at hp1; exact rfree hp1 j
  have hpl1 := lt_of_heap hp1
  have HP1 := hide hp1
  have HB1 := hide hb1
  clear hp1 hb1
  go_wp2_with fail
  go_region
  go_wp2_with fail
  go_ret
  have hk1 : Kept (fun k => k = po) w w1 := Kept.of_below (unhide HB1)
  have hs1 : (w1.setCell ⟨po, 12, none⟩ (.int .i64 ep)).heap[po]? = some (postObj x d c' ct mv ep) := by
    have := unhide HP1
    unfold postObj at this
    exact rset (i := 12) this _
  exact ⟨rfl, (Below.heap_alloc _ _ _ (lt_of_heap hs1)).trans hs1, ((kept_set hk1 rfl).alloc _).drew⟩

set_option maxHeartbeats 2000000 in
theorem token_any {w : World} {po x d : Nat} {ct mv : Value} {eo : Int} (c' : Cf) (hp : w.heap[po]? = some (postObj x d c' ct mv eo)) (o : Ops) :
    Calls Tryz.prog 30 #[.pointer (some ⟨po, 0, none⟩), .agg #[.int .i64 o.kd, .int .i64 o.on, .int .i64 o.a, .int .i64 o.b, .int .i64 o.c, .int .i32 o.v, .int .i64 o.te, .int .i64 o.tn, .int .i64 o.fs, .int .i64 o.fle, .int .i64 o.fla, .int .i64 o.fwi, .int .i64 o.fke, .int .i64 o.fqu, .slice o.fa o.fn o.fcap]] w fun e w' => e = .returned (.agg #[.int .i64 o.te, .int .i64 o.tn]) ∧ Below w.heap.size w w' := by
  have p11 : w.cell? ⟨po, 11, none⟩ = some (.slice none 0 0) := by unfold postObj at hp; rw [rcell hp]; rfl
  have hpl := lt_of_heap hp
  clear hp
  go_enter Tryz.func30, Tryz.ntmps30
  go_wp2_with fail
  all_goals
    refine bodyPost_ret (v := .agg #[.int .i64 o.te, .int .i64 o.tn]) (results_cell_row Tryz.results30 _ _ (w.heap.size + 1) _ _ _ _ rfl (box2 w _ _).2.1 Tryz.underlying37 rfl (by kernel_rfl)) rfl ?_
    exact ⟨rfl, (box2 w _ _).2.2.1⟩

set_option maxRecDepth 8000 in
set_option maxHeartbeats 4000000 in
theorem called_ing {w : World} {po x d : Nat} {c : Cf} {tv ct mv : Value} {ep now eo : Int} {s lb gb : Nat} {L : LV} (h : MillAt w x c tv ep now s lb gb L) (hc : c.ok) (hnow : 0 ≤ now ∧ now ≤ 100000) (hu : 0 ≤ usedL L ∧ usedL L ≤ 1000000000000) (hst : stOk L) (hroom : L.length ≤ 1000000) (hsm : ∀ p ∈ L, p.2.cl.small) (c' : Cf) (hp : w.heap[po]? = some (postObj x d c' ct mv eo)) (hpn : ¬ po = lb) (o : Ops) (hval : -2147483648 ≤ o.v ∧ o.v ≤ 2147483647) (te tn : Int) :
    Calls Tryz.prog 31 #[.pointer (some ⟨po, 0, none⟩), .agg #[.int .i64 2, .int .i64 o.on, .int .i64 o.a, .int .i64 o.b, .int .i64 o.c, .int .i32 o.v, .int .i64 o.te, .int .i64 o.tn, .int .i64 o.fs, .int .i64 o.fle, .int .i64 o.fla, .int .i64 o.fwi, .int .i64 o.fke, .int .i64 o.fqu, .slice o.fa o.fn o.fcap], .agg #[.int .i64 te, .int .i64 tn]] w fun e w' => e = .returned (.tuple #[.agg #[.int .i64 0, .int .i64 0, .int .i64 0, .int .i64 0, .int .i64 0, .int .i64 0, .int .i64 0, .int .i64 0, .int .i64 0, .int .i64 0, .int .i64 0], .int .i64 (pingest c now L o.a o.b o.v).2]) ∧ MillAt w' x c tv ep now s lb gb (pingest c now L o.a o.b o.v).1 ∧ Kept (fun k => k = lb) w w' := by
  obtain ⟨y0, y1, y2, hbw, yz⟩ := box3p w (.cells #[.int .i64 2, .int .i64 o.on, .int .i64 o.a, .int .i64 o.b, .int .i64 o.c, .int .i32 o.v, .int .i64 o.te, .int .i64 o.tn, .int .i64 o.fs, .int .i64 o.fle, .int .i64 o.fla, .int .i64 o.fwi, .int .i64 o.fke, .int .i64 o.fqu, .slice o.fa o.fn o.fcap] 39) (.cells #[.int .i64 te, .int .i64 tn] 37) (.cells #[.int .i64 0, .int .i64 0, .int .i64 0, .int .i64 0, .int .i64 0, .int .i64 0, .int .i64 0, .int .i64 0, .int .i64 0, .int .i64 0, .int .i64 0] 64)
  have hlow := h.set.live.lt
  have HC := fun (V : World) (hb : Below w.heap.size w V) => hide (pingest_any (h.later hb) hc hnow hu hst hroom hsm o.a o.b o.v hval)
  have HFT := hide h.foot_lt
  have hpl := lt_of_heap hp
  have HP := hide hp
  clear h hp
  go_enter Tryz.func31, Tryz.ntmps31
  go_wp2_with fail
  generalize (((w.alloc (.cells #[.int .i64 2, .int .i64 o.on, .int .i64 o.a, .int .i64 o.b, .int .i64 o.c, .int .i32 o.v, .int .i64 o.te, .int .i64 o.tn, .int .i64 o.fs, .int .i64 o.fle, .int .i64 o.fla, .int .i64 o.fwi, .int .i64 o.fke, .int .i64 o.fqu, .slice o.fa o.fn o.fcap] 39)).alloc (.cells #[.int .i64 te, .int .i64 tn] 37)).alloc (.cells #[.int .i64 0, .int .i64 0, .int .i64 0, .int .i64 0, .int .i64 0, .int .i64 0, .int .i64 0, .int .i64 0, .int .i64 0, .int .i64 0, .int .i64 0] 64)) = X at *
  have HC0 := HC X hbw
  have HC1 := HC X.drew hbw.drew
  clear HC
  have hpx := (hbw.block po hpl).trans (unhide HP)
  have z0 : X.cell? ⟨po, 0, none⟩ = some (.pointer (some ⟨x, 0, none⟩)) := by unfold postObj at hpx; rw [rcell hpx]; rfl
  have z2 : X.cell? ⟨w.heap.size, 2, none⟩ = some (.int .i64 o.a) := by rw [rcell y0]; rfl
  have z3 : X.cell? ⟨w.heap.size, 3, none⟩ = some (.int .i64 o.b) := by rw [rcell y0]; rfl
  have z5 : X.cell? ⟨w.heap.size, 5, none⟩ = some (.int .i32 o.v) := by rw [rcell y0]; rfl
  have hpX : po < X.heap.size := by omega
  have hqX : w.heap.size < X.heap.size := by omega
  have hn1 : ¬ w.heap.size = lb := by omega
  have hn2 : ¬ w.heap.size + 2 = lb := by omega
  have hjX : w.heap.size + 2 < X.heap.size := by omega
  have Y2 := hide y2
  have HBW := hide hbw
  have YZ := hide yz
  clear y0 y1 y2 hbw yz hpx
  go_region_held3 (fun w' => w'.cell? ⟨po, 0, none⟩ = some (.pointer (some ⟨x, 0, none⟩)) ∧ w'.cell? ⟨w.heap.size, 2, none⟩ = some (.int .i64 o.a) ∧ w'.cell? ⟨w.heap.size, 3, none⟩ = some (.int .i64 o.b) ∧ w'.cell? ⟨w.heap.size, 5, none⟩ = some (.int .i32 o.v)) (go_keep) (first
    | (go_at_call 51; (first | refine (unhide HC1).mono ?_ | refine (unhide HC0).mono ?_); rintro e V ⟨rfl, hm, hk0⟩; have hk : Kept (fun k => k = lb) X V := ⟨hk0.os, hk0.tape, hk0.output, hk0.size, hk0.block⟩; clear hk0; have HMV := hide hm; have v0 := (kept_cell (i := 0) hk hpn hpX).trans z0; have v2 := (kept_cell (i := 2) hk hn1 hqX).trans z2; have v3 := (kept_cell (i := 3) hk hn1 hqX).trans z3; have v5 := (kept_cell (i := 5) hk hn1 hqX).trans z5; have HJV := hide ((hk.block (w.heap.size + 2) hjX hn2).trans (unhide Y2)); have HKV := hide hk; clear hm hk))
  have j0 : V.cell? ⟨w.heap.size + 2, 0, none⟩ = some (.int .i64 0) := by rw [rcell (unhide HJV)]; rfl
  have j1 : V.cell? ⟨w.heap.size + 2, 1, none⟩ = some (.int .i64 0) := by rw [rcell (unhide HJV)]; rfl
  have j2 : V.cell? ⟨w.heap.size + 2, 2, none⟩ = some (.int .i64 0) := by rw [rcell (unhide HJV)]; rfl
  have j3 : V.cell? ⟨w.heap.size + 2, 3, none⟩ = some (.int .i64 0) := by rw [rcell (unhide HJV)]; rfl
  have j4 : V.cell? ⟨w.heap.size + 2, 4, none⟩ = some (.int .i64 0) := by rw [rcell (unhide HJV)]; rfl
  have j5 : V.cell? ⟨w.heap.size + 2, 5, none⟩ = some (.int .i64 0) := by rw [rcell (unhide HJV)]; rfl
  have j6 : V.cell? ⟨w.heap.size + 2, 6, none⟩ = some (.int .i64 0) := by rw [rcell (unhide HJV)]; rfl
  have j7 : V.cell? ⟨w.heap.size + 2, 7, none⟩ = some (.int .i64 0) := by rw [rcell (unhide HJV)]; rfl
  have j8 : V.cell? ⟨w.heap.size + 2, 8, none⟩ = some (.int .i64 0) := by rw [rcell (unhide HJV)]; rfl
  have j9 : V.cell? ⟨w.heap.size + 2, 9, none⟩ = some (.int .i64 0) := by rw [rcell (unhide HJV)]; rfl
  have j10 : V.cell? ⟨w.heap.size + 2, 10, none⟩ = some (.int .i64 0) := by rw [rcell (unhide HJV)]; rfl
  have jf := fun i => rfree (unhide HJV) i
  obtain ⟨cd, hcd⟩ : ∃ cd, (pingest c now L o.a o.b o.v).2 = cd := ⟨_, rfl⟩
  have HCD := hide hcd
  rw [hcd]
  clear hcd
  go_wp2_with (go_at_call 24; refine (num_any _ _).mono ?_; rintro e V1 ⟨rfl, hV1⟩; rw [hV1]; clear hV1)
  have hf := z11_set 10 (z11_set 9 (z11_set 8 (z11_set 7 (z11_set 6 (z11_set 5 (z11_set 4 (z11_set 3 (z11_set 2 (z11_set 1 (z11_set 0 (unhide HJV)))))))))))
  have hKZ : Kept (fun k => k = w.heap.size + 2) V (((((((((((V.setCell ⟨w.heap.size + 2, 0, none⟩ (.int .i64 0)).setCell ⟨w.heap.size + 2, 1, none⟩ (.int .i64 0)).setCell ⟨w.heap.size + 2, 2, none⟩ (.int .i64 0)).setCell ⟨w.heap.size + 2, 3, none⟩ (.int .i64 0)).setCell ⟨w.heap.size + 2, 4, none⟩ (.int .i64 0)).setCell ⟨w.heap.size + 2, 5, none⟩ (.int .i64 0)).setCell ⟨w.heap.size + 2, 6, none⟩ (.int .i64 0)).setCell ⟨w.heap.size + 2, 7, none⟩ (.int .i64 0)).setCell ⟨w.heap.size + 2, 8, none⟩ (.int .i64 0)).setCell ⟨w.heap.size + 2, 9, none⟩ (.int .i64 0)).setCell ⟨w.heap.size + 2, 10, none⟩ (.int .i64 0)) := kept_set (i := 10) (kept_set (i := 9) (kept_set (i := 8) (kept_set (i := 7) (kept_set (i := 6) (kept_set (i := 5) (kept_set (i := 4) (kept_set (i := 3) (kept_set (i := 2) (kept_set (i := 1) (kept_set (i := 0) (Kept.refl _ _) rfl) rfl) rfl) rfl) rfl) rfl) rfl) rfl) rfl) rfl) rfl
  refine bodyPost_ret (v := .tuple #[.agg #[.int .i64 0, .int .i64 0, .int .i64 0, .int .i64 0, .int .i64 0, .int .i64 0, .int .i64 0, .int .i64 0, .int .i64 0, .int .i64 0, .int .i64 0], .int .i64 cd]) (results_row_tmp Tryz.results31 _ _ (w.heap.size + 2) _ _ _ _ _ rfl rfl hf Tryz.underlying64 rfl (by kernel_rfl)) rfl ?_
  refine ⟨by rw [unhide HCD], (unhide HMV).kept hKZ (fun k hk e => by have := unhide HFT k hk; omega), ((Kept.of_below (f := fun k => k = lb) (unhide HBW)).trans (unhide HKV) (fun _ _ h => h)).trans hKZ (fun i hi e => by omega)⟩

set_option maxRecDepth 8000 in
set_option maxHeartbeats 4000000 in
theorem called_tick {w : World} {po x d : Nat} {c : Cf} {tv ct mv : Value} {ep now eo : Int} {s lb gb : Nat} {L : LV} (h : MillAt w x c tv ep now s lb gb L) (hnow : 0 ≤ now ∧ now ≤ 100000) (c' : Cf) (hp : w.heap[po]? = some (postObj x d c' ct mv eo)) (hpn : ¬ po = x) (o : Ops) (te tn : Int) :
    Calls Tryz.prog 31 #[.pointer (some ⟨po, 0, none⟩), .agg #[.int .i64 3, .int .i64 o.on, .int .i64 o.a, .int .i64 o.b, .int .i64 o.c, .int .i32 o.v, .int .i64 o.te, .int .i64 o.tn, .int .i64 o.fs, .int .i64 o.fle, .int .i64 o.fla, .int .i64 o.fwi, .int .i64 o.fke, .int .i64 o.fqu, .slice o.fa o.fn o.fcap], .agg #[.int .i64 te, .int .i64 tn]] w fun e w' => e = .returned (.tuple #[.agg #[.int .i64 0, .int .i64 0, .int .i64 0, .int .i64 0, .int .i64 0, .int .i64 0, .int .i64 0, .int .i64 0, .int .i64 0, .int .i64 0, .int .i64 0], .int .i64 (ptick now o.a).2]) ∧ MillAt w' x c tv ep (ptick now o.a).1 s lb gb L ∧ Kept (fun k => k = x) w w' := by
  obtain ⟨y0, y1, y2, hbw, yz⟩ := box3p w (.cells #[.int .i64 3, .int .i64 o.on, .int .i64 o.a, .int .i64 o.b, .int .i64 o.c, .int .i32 o.v, .int .i64 o.te, .int .i64 o.tn, .int .i64 o.fs, .int .i64 o.fle, .int .i64 o.fla, .int .i64 o.fwi, .int .i64 o.fke, .int .i64 o.fqu, .slice o.fa o.fn o.fcap] 39) (.cells #[.int .i64 te, .int .i64 tn] 37) (.cells #[.int .i64 0, .int .i64 0, .int .i64 0, .int .i64 0, .int .i64 0, .int .i64 0, .int .i64 0, .int .i64 0, .int .i64 0, .int .i64 0, .int .i64 0] 64)
  have hlow := h.lt
  have HC := fun (V : World) (hb : Below w.heap.size w V) => hide (ptick_any (h.later hb) hnow o.a)
  have HFT := hide h.foot_lt
  have hpl := lt_of_heap hp
  have HP := hide hp
  clear h hp
  go_enter Tryz.func31, Tryz.ntmps31
  go_wp2_with fail
  generalize (((w.alloc (.cells #[.int .i64 3, .int .i64 o.on, .int .i64 o.a, .int .i64 o.b, .int .i64 o.c, .int .i32 o.v, .int .i64 o.te, .int .i64 o.tn, .int .i64 o.fs, .int .i64 o.fle, .int .i64 o.fla, .int .i64 o.fwi, .int .i64 o.fke, .int .i64 o.fqu, .slice o.fa o.fn o.fcap] 39)).alloc (.cells #[.int .i64 te, .int .i64 tn] 37)).alloc (.cells #[.int .i64 0, .int .i64 0, .int .i64 0, .int .i64 0, .int .i64 0, .int .i64 0, .int .i64 0, .int .i64 0, .int .i64 0, .int .i64 0, .int .i64 0] 64)) = X at *
  have HC0 := HC X hbw
  have HC1 := HC X.drew hbw.drew
  clear HC
  have hpx := (hbw.block po hpl).trans (unhide HP)
  have z0 : X.cell? ⟨po, 0, none⟩ = some (.pointer (some ⟨x, 0, none⟩)) := by unfold postObj at hpx; rw [rcell hpx]; rfl
  have z2 : X.cell? ⟨w.heap.size, 2, none⟩ = some (.int .i64 o.a) := by rw [rcell y0]; rfl
  have z3 : X.cell? ⟨w.heap.size, 3, none⟩ = some (.int .i64 o.b) := by rw [rcell y0]; rfl
  have z5 : X.cell? ⟨w.heap.size, 5, none⟩ = some (.int .i32 o.v) := by rw [rcell y0]; rfl
  have hpX : po < X.heap.size := by omega
  have hqX : w.heap.size < X.heap.size := by omega
  have hn1 : ¬ w.heap.size = x := by omega
  have hn2 : ¬ w.heap.size + 2 = x := by omega
  have hjX : w.heap.size + 2 < X.heap.size := by omega
  have Y2 := hide y2
  have HBW := hide hbw
  have YZ := hide yz
  clear y0 y1 y2 hbw yz hpx
  go_region_held3 (fun w' => w'.cell? ⟨po, 0, none⟩ = some (.pointer (some ⟨x, 0, none⟩)) ∧ w'.cell? ⟨w.heap.size, 2, none⟩ = some (.int .i64 o.a)) (go_keep) (first
    | (go_at_call 52; (first | refine (unhide HC1).mono ?_ | refine (unhide HC0).mono ?_); rintro e V ⟨rfl, hm, hk0⟩; have hk : Kept (fun k => k = x) X V := ⟨hk0.os, hk0.tape, hk0.output, hk0.size, hk0.block⟩; clear hk0; have HMV := hide hm; have v0 := (kept_cell (i := 0) hk hpn hpX).trans z0; have v2 := (kept_cell (i := 2) hk hn1 hqX).trans z2; have v3 := (kept_cell (i := 3) hk hn1 hqX).trans z3; have v5 := (kept_cell (i := 5) hk hn1 hqX).trans z5; have HJV := hide ((hk.block (w.heap.size + 2) hjX hn2).trans (unhide Y2)); have HKV := hide hk; clear hm hk))
  have j0 : V.cell? ⟨w.heap.size + 2, 0, none⟩ = some (.int .i64 0) := by rw [rcell (unhide HJV)]; rfl
  have j1 : V.cell? ⟨w.heap.size + 2, 1, none⟩ = some (.int .i64 0) := by rw [rcell (unhide HJV)]; rfl
  have j2 : V.cell? ⟨w.heap.size + 2, 2, none⟩ = some (.int .i64 0) := by rw [rcell (unhide HJV)]; rfl
  have j3 : V.cell? ⟨w.heap.size + 2, 3, none⟩ = some (.int .i64 0) := by rw [rcell (unhide HJV)]; rfl
  have j4 : V.cell? ⟨w.heap.size + 2, 4, none⟩ = some (.int .i64 0) := by rw [rcell (unhide HJV)]; rfl
  have j5 : V.cell? ⟨w.heap.size + 2, 5, none⟩ = some (.int .i64 0) := by rw [rcell (unhide HJV)]; rfl
  have j6 : V.cell? ⟨w.heap.size + 2, 6, none⟩ = some (.int .i64 0) := by rw [rcell (unhide HJV)]; rfl
  have j7 : V.cell? ⟨w.heap.size + 2, 7, none⟩ = some (.int .i64 0) := by rw [rcell (unhide HJV)]; rfl
  have j8 : V.cell? ⟨w.heap.size + 2, 8, none⟩ = some (.int .i64 0) := by rw [rcell (unhide HJV)]; rfl
  have j9 : V.cell? ⟨w.heap.size + 2, 9, none⟩ = some (.int .i64 0) := by rw [rcell (unhide HJV)]; rfl
  have j10 : V.cell? ⟨w.heap.size + 2, 10, none⟩ = some (.int .i64 0) := by rw [rcell (unhide HJV)]; rfl
  have jf := fun i => rfree (unhide HJV) i
  obtain ⟨cd, hcd⟩ : ∃ cd, (ptick now o.a).2 = cd := ⟨_, rfl⟩
  have HCD := hide hcd
  rw [hcd]
  clear hcd
  go_wp2_with (go_at_call 24; refine (num_any _ _).mono ?_; rintro e V1 ⟨rfl, hV1⟩; rw [hV1]; clear hV1)
  have hf := z11_set 10 (z11_set 9 (z11_set 8 (z11_set 7 (z11_set 6 (z11_set 5 (z11_set 4 (z11_set 3 (z11_set 2 (z11_set 1 (z11_set 0 (unhide HJV)))))))))))
  have hKZ : Kept (fun k => k = w.heap.size + 2) V (((((((((((V.setCell ⟨w.heap.size + 2, 0, none⟩ (.int .i64 0)).setCell ⟨w.heap.size + 2, 1, none⟩ (.int .i64 0)).setCell ⟨w.heap.size + 2, 2, none⟩ (.int .i64 0)).setCell ⟨w.heap.size + 2, 3, none⟩ (.int .i64 0)).setCell ⟨w.heap.size + 2, 4, none⟩ (.int .i64 0)).setCell ⟨w.heap.size + 2, 5, none⟩ (.int .i64 0)).setCell ⟨w.heap.size + 2, 6, none⟩ (.int .i64 0)).setCell ⟨w.heap.size + 2, 7, none⟩ (.int .i64 0)).setCell ⟨w.heap.size + 2, 8, none⟩ (.int .i64 0)).setCell ⟨w.heap.size + 2, 9, none⟩ (.int .i64 0)).setCell ⟨w.heap.size + 2, 10, none⟩ (.int .i64 0)) := kept_set (i := 10) (kept_set (i := 9) (kept_set (i := 8) (kept_set (i := 7) (kept_set (i := 6) (kept_set (i := 5) (kept_set (i := 4) (kept_set (i := 3) (kept_set (i := 2) (kept_set (i := 1) (kept_set (i := 0) (Kept.refl _ _) rfl) rfl) rfl) rfl) rfl) rfl) rfl) rfl) rfl) rfl) rfl
  refine bodyPost_ret (v := .tuple #[.agg #[.int .i64 0, .int .i64 0, .int .i64 0, .int .i64 0, .int .i64 0, .int .i64 0, .int .i64 0, .int .i64 0, .int .i64 0, .int .i64 0, .int .i64 0], .int .i64 cd]) (results_row_tmp Tryz.results31 _ _ (w.heap.size + 2) _ _ _ _ _ rfl rfl hf Tryz.underlying64 rfl (by kernel_rfl)) rfl ?_
  refine ⟨by rw [unhide HCD], (unhide HMV).kept hKZ (fun k hk e => by have := unhide HFT k hk; omega), ((Kept.of_below (f := fun k => k = x) (unhide HBW)).trans (unhide HKV) (fun _ _ h => h)).trans hKZ (fun i hi e => by omega)⟩
end Go.Proofs.YtgadceofpbfleaaGreat

/- Walks: the statement's done, for Ingest and Tick (written by wip/mklaw1.py). -/
namespace Go.Proofs.YtgadceofpbfleaaGreat
open Go.RowKit Go.Maps Go.Shelf
set_option linter.unusedVariables false

theorem own_ge {w : World} {base : Nat} {e : TypeId} {size : Nat} {v : Value} {n : Nat} {xs : List Value} (h : w.ownsRow base e size v n xs) : ∀ k, v.ownBlock = some k → base ≤ k := fun k hk => by
  rcases h.2 with ⟨rfl, _⟩ | ⟨g, cap, cur, rfl, hb, _⟩
  · simp [Value.ownBlock] at hk
  · simp [Value.ownBlock] at hk; subst hk; exact hb

/-- what done leaves of a mill whose blocks lie from B on. -/
def donePost (B : Nat) (w : World) (q : Nat) (m : RM) (tv pv gv : Value) (w' : World) : Prop := ∃ nv' kv', RefAt B w' q m tv nv' pv gv kv' ∧ Below B w w'
/-- its blocks lie ahead of the world's end. -/
theorem ref_lt {B : Nat} {w : World} {q : Nat} {m : RM} {tv nv pv gv kv : Value} (h : RefAt B w q m tv nv pv gv kv) : ∀ k, rfoot q tv nv pv gv kv k → B ≤ k ∧ k < w.heap.size := fun k hk => by
  rcases hk with rfl | hk | hk | hk | hk | hk
  · exact ⟨h.base, h.lt⟩
  · exact ⟨own_ge h.trow k hk, own_lt h.trow k hk⟩
  · exact ⟨own_ge h.nrow k hk, own_lt h.nrow k hk⟩
  · exact ⟨own_ge h.prow k hk, own_lt h.prow k hk⟩
  · exact ⟨own_ge h.grow k hk, own_lt h.grow k hk⟩
  · exact ⟨own_ge h.krow k hk, own_lt h.krow k hk⟩
/-- (w: where the mill was; X: where the call began). -/
theorem ing_below {B N : Nat} {X V : World} {q : Nat} {m' : RM} {tv nv pv gv kv : Value} (hr : ∀ k, rfoot q tv nv pv gv kv k → B ≤ k ∧ k < N) (h : ingPost B X q m' tv nv pv gv kv V) : Kept (fun k => B ≤ k ∧ k < N) X V ∧ ∃ nv' kv', RefAt B V q m' tv nv' pv gv kv' ∧ ∀ k, rfoot q tv nv' pv gv kv' k → k < N ∨ X.heap.size ≤ k := by
  obtain ⟨nv', kv', h1, h2, h3, h4⟩ := h
  refine ⟨h2.mono (fun i _ hi => ?_), nv', kv', h1, fun k hk => ?_⟩
  · rcases hi with rfl | hi
    · exact hr _ (.inl rfl)
    · exact hr _ (.inr (.inr (.inl hi)))
  · rcases hk with rfl | hk | hk | hk | hk | hk
    · exact .inl (hr _ (.inl rfl)).2
    · exact .inl (hr _ (.inr (.inl hk))).2
    · rcases h3 k hk with h | h
      · exact .inl (hr _ (.inr (.inr (.inl h)))).2
      · exact .inr h
    · exact .inl (hr _ (.inr (.inr (.inr (.inl hk))))).2
    · exact .inl (hr _ (.inr (.inr (.inr (.inr (.inl hk)))))).2
    · rcases h4 k hk with h | h
      · exact .inl (hr _ (.inr (.inr (.inr (.inr (.inr h)))))).2
      · exact .inr h
theorem tick_below {B N : Nat} {X V : World} {q : Nat} {m' : RM} {tv nv pv gv kv : Value} (hr : ∀ k, rfoot q tv nv pv gv kv k → B ≤ k ∧ k < N) (h : ∃ kv', RefAt B V q m' tv nv pv gv kv' ∧ Kept (fun k => k = q) X V ∧ ∀ k, kv'.ownBlock = some k → kv.ownBlock = some k ∨ X.heap.size ≤ k) : Kept (fun k => B ≤ k ∧ k < N) X V ∧ ∃ nv' kv', RefAt B V q m' tv nv' pv gv kv' ∧ ∀ k, rfoot q tv nv' pv gv kv' k → k < N ∨ X.heap.size ≤ k := by
  obtain ⟨kv', h1, h2, h4⟩ := h
  refine ⟨h2.mono (fun i _ hi => ?_), nv, kv', h1, fun k hk => ?_⟩
  · subst hi; exact hr _ (.inl rfl)
  · rcases hk with rfl | hk | hk | hk | hk | hk
    · exact .inl (hr _ (.inl rfl)).2
    · exact .inl (hr _ (.inr (.inl hk))).2
    · exact .inl (hr _ (.inr (.inr (.inl hk)))).2
    · exact .inl (hr _ (.inr (.inr (.inr (.inl hk))))).2
    · exact .inl (hr _ (.inr (.inr (.inr (.inr (.inl hk)))))).2
    · rcases h4 k hk with h | h
      · exact .inl (hr _ (.inr (.inr (.inr (.inr (.inr h)))))).2
      · exact .inr h
theorem done_close {B : Nat} {w X V Z : World} {q : Nat} {m' : RM} {tv pv gv : Value} (hB : B ≤ w.heap.size) (hbw : Below w.heap.size w X) (hz : X.heap.size = w.heap.size + 3) (hk : Kept (fun k => B ≤ k ∧ k < w.heap.size) X V) (hm : ∃ nv' kv', RefAt B V q m' tv nv' pv gv kv' ∧ ∀ k, rfoot q tv nv' pv gv kv' k → k < w.heap.size ∨ X.heap.size ≤ k) (hKZ : Kept (fun k => k = w.heap.size + 2) V Z) : donePost B w q m' tv pv gv Z := by
  obtain ⟨nv', kv', h1, h2⟩ := hm
  refine ⟨nv', kv', h1.kept hKZ (fun k hk e => ?_), ?_⟩
  · rcases h2 k hk with h | h <;> omega
  · have k1 := ((Kept.of_below (f := fun k => B ≤ k) hbw).trans hk (fun _ _ h => h.1)).trans hKZ (fun i hi e => by omega)
    exact k1.below hB (fun _ h => h)

set_option maxRecDepth 8000 in
set_option maxHeartbeats 4000000 in
theorem done_ing {B : Nat} {w : World} {q : Nat} {m : RM} {tv nv pv gv kv : Value} (h : RefAt B w q m tv nv pv gv kv) (hB : B ≤ w.heap.size) (hc : m.c.ok) (hnl : m.nums.length ≤ 100000000) (hgl : m.gone.length ≤ 1000000000000) (hpl : m.pub.length ≤ 1000000000000) (hkl : m.tasks.length ≤ 1000000000000) (hno : ∀ x ∈ m.nums, x.ok) (hnow : 0 ≤ m.now ∧ m.now ≤ 100000) (hu : m.used ≤ 1000000000000000000) (o : Ops) (hval : -2147483648 ≤ o.v ∧ o.v ≤ 2147483647) (te tn : Int) :
    Calls Tryz.prog 33 #[.pointer (some ⟨q, 0, none⟩), .agg #[.int .i64 2, .int .i64 o.on, .int .i64 o.a, .int .i64 o.b, .int .i64 o.c, .int .i32 o.v, .int .i64 o.te, .int .i64 o.tn, .int .i64 o.fs, .int .i64 o.fle, .int .i64 o.fla, .int .i64 o.fwi, .int .i64 o.fke, .int .i64 o.fqu, .slice o.fa o.fn o.fcap], .agg #[.int .i64 te, .int .i64 tn]] w fun e w' => e = .returned (.tuple #[.agg #[.int .i64 0, .int .i64 0, .int .i64 0, .int .i64 0, .int .i64 0, .int .i64 0, .int .i64 0, .int .i64 0, .int .i64 0, .int .i64 0, .int .i64 0], .int .i64 (m.ingest o.a o.b o.v).2]) ∧ donePost B w q (m.ingest o.a o.b o.v).1 tv pv gv w' := by
  obtain ⟨y0, y1, y2, hbw, yz⟩ := box3p w (.cells #[.int .i64 2, .int .i64 o.on, .int .i64 o.a, .int .i64 o.b, .int .i64 o.c, .int .i32 o.v, .int .i64 o.te, .int .i64 o.tn, .int .i64 o.fs, .int .i64 o.fle, .int .i64 o.fla, .int .i64 o.fwi, .int .i64 o.fke, .int .i64 o.fqu, .slice o.fa o.fn o.fcap] 39) (.cells #[.int .i64 te, .int .i64 tn] 37) (.cells #[.int .i64 0, .int .i64 0, .int .i64 0, .int .i64 0, .int .i64 0, .int .i64 0, .int .i64 0, .int .i64 0, .int .i64 0, .int .i64 0, .int .i64 0] 64)
  have HC := hide (ringest_any (h.later hbw) (Nat.le_trans hB hbw.size) hc hnl hgl hpl hkl hno hnow hu o.a o.b o.v hval)
  have HRB := hide (ref_lt h)
  have hql := h.lt
  clear h
  go_enter Tryz.func33, Tryz.ntmps33
  have Y2 := hide y2
  have HBW := hide hbw
  have YZ := hide yz
  clear y0 y1 y2 hbw yz
  go_wp2_with fail
  generalize (((w.alloc (.cells #[.int .i64 2, .int .i64 o.on, .int .i64 o.a, .int .i64 o.b, .int .i64 o.c, .int .i32 o.v, .int .i64 o.te, .int .i64 o.tn, .int .i64 o.fs, .int .i64 o.fle, .int .i64 o.fla, .int .i64 o.fwi, .int .i64 o.fke, .int .i64 o.fqu, .slice o.fa o.fn o.fcap] 39)).alloc (.cells #[.int .i64 te, .int .i64 tn] 37)).alloc (.cells #[.int .i64 0, .int .i64 0, .int .i64 0, .int .i64 0, .int .i64 0, .int .i64 0, .int .i64 0, .int .i64 0, .int .i64 0, .int .i64 0, .int .i64 0] 64)) = X at *
  refine (unhide HC).mono ?_
  rintro e V ⟨rfl, hm0⟩
  obtain ⟨hk, hm⟩ := ing_below (unhide HRB) hm0
  have hjX : w.heap.size + 2 < X.heap.size := by rw [unhide YZ]; omega
  have hjv := hk.heap (unhide Y2) (by omega)
  have HJV := hide hjv
  have HKV := hide hk
  have HMV := hide hm
  clear hk hm hm0 hjv
  have j0 : V.cell? ⟨w.heap.size + 2, 0, none⟩ = some (.int .i64 0) := by rw [rcell (unhide HJV)]; rfl
  have j1 : V.cell? ⟨w.heap.size + 2, 1, none⟩ = some (.int .i64 0) := by rw [rcell (unhide HJV)]; rfl
  have j2 : V.cell? ⟨w.heap.size + 2, 2, none⟩ = some (.int .i64 0) := by rw [rcell (unhide HJV)]; rfl
  have j3 : V.cell? ⟨w.heap.size + 2, 3, none⟩ = some (.int .i64 0) := by rw [rcell (unhide HJV)]; rfl
  have j4 : V.cell? ⟨w.heap.size + 2, 4, none⟩ = some (.int .i64 0) := by rw [rcell (unhide HJV)]; rfl
  have j5 : V.cell? ⟨w.heap.size + 2, 5, none⟩ = some (.int .i64 0) := by rw [rcell (unhide HJV)]; rfl
  have j6 : V.cell? ⟨w.heap.size + 2, 6, none⟩ = some (.int .i64 0) := by rw [rcell (unhide HJV)]; rfl
  have j7 : V.cell? ⟨w.heap.size + 2, 7, none⟩ = some (.int .i64 0) := by rw [rcell (unhide HJV)]; rfl
  have j8 : V.cell? ⟨w.heap.size + 2, 8, none⟩ = some (.int .i64 0) := by rw [rcell (unhide HJV)]; rfl
  have j9 : V.cell? ⟨w.heap.size + 2, 9, none⟩ = some (.int .i64 0) := by rw [rcell (unhide HJV)]; rfl
  have j10 : V.cell? ⟨w.heap.size + 2, 10, none⟩ = some (.int .i64 0) := by rw [rcell (unhide HJV)]; rfl
  have jf := fun i => rfree (unhide HJV) i
  obtain ⟨cd, hcd⟩ : ∃ cd, (m.ingest o.a o.b o.v).2 = cd := ⟨_, rfl⟩
  have HCD := hide hcd
  rw [hcd]
  clear hcd
  go_wp2_with fail
  have hf := z11_set 10 (z11_set 9 (z11_set 8 (z11_set 7 (z11_set 6 (z11_set 5 (z11_set 4 (z11_set 3 (z11_set 2 (z11_set 1 (z11_set 0 (unhide HJV)))))))))))
  have hKZ : Kept (fun k => k = w.heap.size + 2) V (((((((((((V.setCell ⟨w.heap.size + 2, 0, none⟩ (.int .i64 0)).setCell ⟨w.heap.size + 2, 1, none⟩ (.int .i64 0)).setCell ⟨w.heap.size + 2, 2, none⟩ (.int .i64 0)).setCell ⟨w.heap.size + 2, 3, none⟩ (.int .i64 0)).setCell ⟨w.heap.size + 2, 4, none⟩ (.int .i64 0)).setCell ⟨w.heap.size + 2, 5, none⟩ (.int .i64 0)).setCell ⟨w.heap.size + 2, 6, none⟩ (.int .i64 0)).setCell ⟨w.heap.size + 2, 7, none⟩ (.int .i64 0)).setCell ⟨w.heap.size + 2, 8, none⟩ (.int .i64 0)).setCell ⟨w.heap.size + 2, 9, none⟩ (.int .i64 0)).setCell ⟨w.heap.size + 2, 10, none⟩ (.int .i64 0)) := kept_set (i := 10) (kept_set (i := 9) (kept_set (i := 8) (kept_set (i := 7) (kept_set (i := 6) (kept_set (i := 5) (kept_set (i := 4) (kept_set (i := 3) (kept_set (i := 2) (kept_set (i := 1) (kept_set (i := 0) (Kept.refl _ _) rfl) rfl) rfl) rfl) rfl) rfl) rfl) rfl) rfl) rfl) rfl
  refine bodyPost_ret (v := .tuple #[.agg #[.int .i64 0, .int .i64 0, .int .i64 0, .int .i64 0, .int .i64 0, .int .i64 0, .int .i64 0, .int .i64 0, .int .i64 0, .int .i64 0, .int .i64 0], .int .i64 cd]) (results_row_tmp Tryz.results33 _ _ (w.heap.size + 2) _ _ _ _ _ rfl rfl hf Tryz.underlying64 rfl (by kernel_rfl)) rfl ?_
  exact ⟨by rw [unhide HCD], done_close hB (unhide HBW) (unhide YZ) (unhide HKV) (unhide HMV) hKZ⟩

set_option maxRecDepth 8000 in
set_option maxHeartbeats 4000000 in
theorem done_tick {B : Nat} {w : World} {q : Nat} {m : RM} {tv nv pv gv kv : Value} (h : RefAt B w q m tv nv pv gv kv) (hB : B ≤ w.heap.size) (hc : m.c.ok) (hnl : m.nums.length ≤ 100000000) (hgl : m.gone.length ≤ 1000000000000) (hpl : m.pub.length ≤ 1000000000000) (hkl : m.tasks.length ≤ 1000000000000) (hno : ∀ x ∈ m.nums, x.ok) (hnow : 0 ≤ m.now ∧ m.now ≤ 100000) (hfree : ∀ x ∈ m.tasks, x.slot = -1) (o : Ops) (hn : -9223372036854775808 ≤ o.a ∧ o.a ≤ 9223372036854775807) (te tn : Int) :
    Calls Tryz.prog 33 #[.pointer (some ⟨q, 0, none⟩), .agg #[.int .i64 3, .int .i64 o.on, .int .i64 o.a, .int .i64 o.b, .int .i64 o.c, .int .i32 o.v, .int .i64 o.te, .int .i64 o.tn, .int .i64 o.fs, .int .i64 o.fle, .int .i64 o.fla, .int .i64 o.fwi, .int .i64 o.fke, .int .i64 o.fqu, .slice o.fa o.fn o.fcap], .agg #[.int .i64 te, .int .i64 tn]] w fun e w' => e = .returned (.tuple #[.agg #[.int .i64 0, .int .i64 0, .int .i64 0, .int .i64 0, .int .i64 0, .int .i64 0, .int .i64 0, .int .i64 0, .int .i64 0, .int .i64 0, .int .i64 0], .int .i64 (m.tick o.a).2]) ∧ donePost B w q (m.tick o.a).1 tv pv gv w' := by
  obtain ⟨y0, y1, y2, hbw, yz⟩ := box3p w (.cells #[.int .i64 3, .int .i64 o.on, .int .i64 o.a, .int .i64 o.b, .int .i64 o.c, .int .i32 o.v, .int .i64 o.te, .int .i64 o.tn, .int .i64 o.fs, .int .i64 o.fle, .int .i64 o.fla, .int .i64 o.fwi, .int .i64 o.fke, .int .i64 o.fqu, .slice o.fa o.fn o.fcap] 39) (.cells #[.int .i64 te, .int .i64 tn] 37) (.cells #[.int .i64 0, .int .i64 0, .int .i64 0, .int .i64 0, .int .i64 0, .int .i64 0, .int .i64 0, .int .i64 0, .int .i64 0, .int .i64 0, .int .i64 0] 64)
  have HC := hide (tick_any (h.later hbw) (Nat.le_trans hB hbw.size) hc (by omega) hgl hpl hkl hno hnow hfree o.a hn)
  have HRB := hide (ref_lt h)
  have hql := h.lt
  clear h
  go_enter Tryz.func33, Tryz.ntmps33
  have Y2 := hide y2
  have HBW := hide hbw
  have YZ := hide yz
  clear y0 y1 y2 hbw yz
  go_wp2_with fail
  generalize (((w.alloc (.cells #[.int .i64 3, .int .i64 o.on, .int .i64 o.a, .int .i64 o.b, .int .i64 o.c, .int .i32 o.v, .int .i64 o.te, .int .i64 o.tn, .int .i64 o.fs, .int .i64 o.fle, .int .i64 o.fla, .int .i64 o.fwi, .int .i64 o.fke, .int .i64 o.fqu, .slice o.fa o.fn o.fcap] 39)).alloc (.cells #[.int .i64 te, .int .i64 tn] 37)).alloc (.cells #[.int .i64 0, .int .i64 0, .int .i64 0, .int .i64 0, .int .i64 0, .int .i64 0, .int .i64 0, .int .i64 0, .int .i64 0, .int .i64 0, .int .i64 0] 64)) = X at *
  refine (unhide HC).mono ?_
  rintro e V ⟨rfl, hm0⟩
  obtain ⟨hk, hm⟩ := tick_below (unhide HRB) hm0
  have hjX : w.heap.size + 2 < X.heap.size := by rw [unhide YZ]; omega
  have hjv := hk.heap (unhide Y2) (by omega)
  have HJV := hide hjv
  have HKV := hide hk
  have HMV := hide hm
  clear hk hm hm0 hjv
  have j0 : V.cell? ⟨w.heap.size + 2, 0, none⟩ = some (.int .i64 0) := by rw [rcell (unhide HJV)]; rfl
  have j1 : V.cell? ⟨w.heap.size + 2, 1, none⟩ = some (.int .i64 0) := by rw [rcell (unhide HJV)]; rfl
  have j2 : V.cell? ⟨w.heap.size + 2, 2, none⟩ = some (.int .i64 0) := by rw [rcell (unhide HJV)]; rfl
  have j3 : V.cell? ⟨w.heap.size + 2, 3, none⟩ = some (.int .i64 0) := by rw [rcell (unhide HJV)]; rfl
  have j4 : V.cell? ⟨w.heap.size + 2, 4, none⟩ = some (.int .i64 0) := by rw [rcell (unhide HJV)]; rfl
  have j5 : V.cell? ⟨w.heap.size + 2, 5, none⟩ = some (.int .i64 0) := by rw [rcell (unhide HJV)]; rfl
  have j6 : V.cell? ⟨w.heap.size + 2, 6, none⟩ = some (.int .i64 0) := by rw [rcell (unhide HJV)]; rfl
  have j7 : V.cell? ⟨w.heap.size + 2, 7, none⟩ = some (.int .i64 0) := by rw [rcell (unhide HJV)]; rfl
  have j8 : V.cell? ⟨w.heap.size + 2, 8, none⟩ = some (.int .i64 0) := by rw [rcell (unhide HJV)]; rfl
  have j9 : V.cell? ⟨w.heap.size + 2, 9, none⟩ = some (.int .i64 0) := by rw [rcell (unhide HJV)]; rfl
  have j10 : V.cell? ⟨w.heap.size + 2, 10, none⟩ = some (.int .i64 0) := by rw [rcell (unhide HJV)]; rfl
  have jf := fun i => rfree (unhide HJV) i
  obtain ⟨cd, hcd⟩ : ∃ cd, (m.tick o.a).2 = cd := ⟨_, rfl⟩
  have HCD := hide hcd
  rw [hcd]
  clear hcd
  go_wp2_with fail
  have hf := z11_set 10 (z11_set 9 (z11_set 8 (z11_set 7 (z11_set 6 (z11_set 5 (z11_set 4 (z11_set 3 (z11_set 2 (z11_set 1 (z11_set 0 (unhide HJV)))))))))))
  have hKZ : Kept (fun k => k = w.heap.size + 2) V (((((((((((V.setCell ⟨w.heap.size + 2, 0, none⟩ (.int .i64 0)).setCell ⟨w.heap.size + 2, 1, none⟩ (.int .i64 0)).setCell ⟨w.heap.size + 2, 2, none⟩ (.int .i64 0)).setCell ⟨w.heap.size + 2, 3, none⟩ (.int .i64 0)).setCell ⟨w.heap.size + 2, 4, none⟩ (.int .i64 0)).setCell ⟨w.heap.size + 2, 5, none⟩ (.int .i64 0)).setCell ⟨w.heap.size + 2, 6, none⟩ (.int .i64 0)).setCell ⟨w.heap.size + 2, 7, none⟩ (.int .i64 0)).setCell ⟨w.heap.size + 2, 8, none⟩ (.int .i64 0)).setCell ⟨w.heap.size + 2, 9, none⟩ (.int .i64 0)).setCell ⟨w.heap.size + 2, 10, none⟩ (.int .i64 0)) := kept_set (i := 10) (kept_set (i := 9) (kept_set (i := 8) (kept_set (i := 7) (kept_set (i := 6) (kept_set (i := 5) (kept_set (i := 4) (kept_set (i := 3) (kept_set (i := 2) (kept_set (i := 1) (kept_set (i := 0) (Kept.refl _ _) rfl) rfl) rfl) rfl) rfl) rfl) rfl) rfl) rfl) rfl) rfl
  refine bodyPost_ret (v := .tuple #[.agg #[.int .i64 0, .int .i64 0, .int .i64 0, .int .i64 0, .int .i64 0, .int .i64 0, .int .i64 0, .int .i64 0, .int .i64 0, .int .i64 0, .int .i64 0], .int .i64 cd]) (results_row_tmp Tryz.results33 _ _ (w.heap.size + 2) _ _ _ _ _ rfl rfl hf Tryz.underlying64 rfl (by kernel_rfl)) rfl ?_
  exact ⟨by rw [unhide HCD], done_close hB (unhide HBW) (unhide YZ) (unhide HKV) (unhide HMV) hKZ⟩
end Go.Proofs.YtgadceofpbfleaaGreat

/- The program's mill and the document's, side by side, where nothing is picked: each call answers alike and leaves them so. -/
namespace Go.Proofs.YtgadceofpbfleaaGreat
set_option linter.unusedVariables false

/-- alike. -/
structure Sim (c : Cf) (m : RM) (now : Int) (L : LV) : Prop where
  ok : c.ok
  hc : m.c = c
  hnow : m.now = now
  pub : m.pub = []
  gone : m.gone = []
  live : Live c m.nums L
  few : (m.nums.length : Int) ≤ usedL L
  room : usedL L ≤ c.qu
  nums : ∀ x ∈ m.nums, x.ok
  free : ∀ x ∈ m.tasks, x.slot = -1
  tasks : m.tasks.length ≤ 100000
  time : 0 ≤ now ∧ now ≤ 100000

section
variable {c : Cf} {m : RM} {now : Int} {L : LV}
theorem Sim.len (h : Sim c m now L) : m.nums.length ≤ 400 := by have := h.few; have := h.room; have := h.ok.qu; omega
theorem Sim.segs (h : Sim c m now L) : (segsOf c m.nums).length ≤ 2000 := by
  have h1 := segsTo_len c m.nums (c.n + 1)
  have h2 := h.len
  have h3 := h.ok.n4
  have h4 : (c.n + 1) * m.nums.length ≤ 5 * 400 := Nat.mul_le_mul (by omega) h2
  unfold segsOf; omega
theorem Sim.llen (h : Sim c m now L) : L.length ≤ 2000 := by
  have h1 := h.live.perm.length_eq
  have h2 := h.segs
  unfold keysL at h1; simp at h1; omega
theorem Sim.stOk (h : Sim c m now L) : stOk L := fun p hp => by
  rw [h.live.vals p hp]; unfold heldV; split <;> simp
theorem Sim.small (h : Sim c m now L) : ∀ p ∈ L, p.2.cl.small := fun p hp => by
  rw [h.live.vals p hp]
  have hb := cellOf_bound (c := c) (s := p.1) h.nums
  have hl := h.len
  unfold heldV; split
  · unfold Cl.small; simp only; omega
  · unfold Cl.small noCl; simp
theorem Sim.used (h : Sim c m now L) : m.used = usedL L := by unfold RM.used; rw [h.gone, h.hc]; exact h.live.used.symm
theorem Sim.ubound (h : Sim c m now L) : 0 ≤ usedL L ∧ usedL L ≤ 400 := by have := h.few; have := h.room; have := h.ok.qu; omega
theorem countL_bound (k : Int) : ∀ L : LV, 0 ≤ countL L k ∧ countL L k ≤ L.length
  | [] => by simp [countL, sumI]
  | p :: L => by
    have := countL_bound k L
    unfold countL at *
    simp only [List.map_cons, sumI, List.length_cons]
    have h2 : 0 ≤ isSt k p.2 ∧ isSt k p.2 ≤ 1 := by unfold isSt; split <;> omega
    omega
theorem Sim.counts (h : Sim c m now L) (k : Int) : i64B (countL L k) := by
  have h1 := countL_bound k L; have h2 := h.llen; unfold i64B; omega
theorem Sim.st4 (h : Sim c m now L) (s : Sg) : ¬ (stL L s).st = 4 := by
  unfold stL
  cases hg : getL L s with
  | none => simp
  | some v =>
    have := h.live.vals _ (getL_mem hg)
    simp only [Option.getD_some]
    rw [show v = heldV c m.nums s from this]
    unfold heldV; split <;> simp

theorem settled_len (m : RM) : m.settled.tasks.length ≤ 2 * (segsOf m.c m.nums).length := settle_len m _ _ (Nat.le_refl _)

/-- P5. -/
theorem Sim.tick (h : Sim c m now L) (n : Int) : (m.tick n).2 = (ptick now n).2 ∧ Sim c (m.tick n).1 (ptick now n).1 L := by
  by_cases hb : n < 1 ∨ 1000 < n ∨ 100000 < now + n
  · rw [tick_bad (by rw [h.hnow]; exact hb), show ptick now n = (now, 5) from by unfold ptick; rw [if_pos hb]]
    exact ⟨rfl, h⟩
  · rw [tick_ok (by rw [h.hnow]; exact hb), show ptick now n = (now + n, 0) from by unfold ptick; rw [if_neg hb]]
    refine ⟨rfl, ⟨h.ok, h.hc, by show m.now + n = now + n; rw [h.hnow], h.pub, h.gone, h.live, h.few, h.room, h.nums, settled_free h.free, ?_, ?_⟩⟩
    · have h1 := settled_len { m with now := m.now + n }
      have h2 := h.segs
      have h4 : (segsOf ({ m with now := m.now + n } : RM).c ({ m with now := m.now + n } : RM).nums).length ≤ 2000 := by show (segsOf m.c m.nums).length ≤ 2000; rw [h.hc]; exact h2
      exact Nat.le_trans h1 (by omega)
    · have := h.time; show 0 ≤ now + n ∧ now + n ≤ 100000; omega

/-- P4. -/
theorem Sim.ingest (h : Sim c m now L) (ser tm val : Int) (hval : -2147483648 ≤ val ∧ val ≤ 2147483647) : (m.ingest ser tm val).2 = (pingest c now L ser tm val).2 ∧ Sim c (m.ingest ser tm val).1 now (pingest c now L ser tm val).1 := by
  have hqb := h.ok.qu
  by_cases p1 : ser < 0 ∨ 4 ≤ ser
  · have e : serB ser = false := by unfold serB; simp; omega
    rw [ingest_arg p1, show pingest c now L ser tm val = (L, 2) from by simp [pingest, e]]
    exact ⟨rfl, h⟩
  have e1 : ¬ serB ser = false := by unfold serB; simp; omega
  by_cases p2 : tm < 0 ∨ now < tm
  · rw [ingest_time p1 (by rw [h.hnow]; exact p2), show pingest c now L ser tm val = (L, 5) from by unfold pingest; rw [if_neg e1, if_pos p2]]
    exact ⟨rfl, h⟩
  by_cases p3 : tm < now - c.la
  · rw [ingest_late p1 (by rw [h.hnow]; exact p2) (by rw [h.hnow, h.hc]; exact p3), show pingest c now L ser tm val = (L, 3) from by unfold pingest; rw [if_neg e1, if_neg p2, if_pos p3]]
    exact ⟨rfl, h⟩
  have hl : Live m.c m.nums L := by rw [h.hc]; exact h.live
  have hco := cost_same hl h.gone ⟨ser, tm, val⟩ m.c.n
  rw [h.hc] at hco
  by_cases p4 : c.qu < usedL L + (1 + 2 * missL c L ⟨ser, tm, val⟩ c.n)
  · rw [ingest_full p1 (by rw [h.hnow]; exact p2) (by rw [h.hnow, h.hc]; exact p3) (by rw [h.hc, hco]; omega), show pingest c now L ser tm val = (L, 4) from by unfold pingest; rw [if_neg e1, if_neg p2, if_neg p3, if_pos p4]]
    exact ⟨rfl, h⟩
  · rw [ingest_ok p1 (by rw [h.hnow]; exact p2) (by rw [h.hnow, h.hc]; exact p3) (by rw [h.hc, hco]; omega), show pingest c now L ser tm val = (addL c L ⟨ser, tm, val⟩, 0) from by unfold pingest; rw [if_neg e1, if_neg p2, if_neg p3, if_neg p4]]
    have hua := used_add h.live ⟨ser, tm, val⟩ h.ok.n1
    have hmb := missL_bounds c L ⟨ser, tm, val⟩ c.n
    have hfew := h.few
    have hti := h.time
    have hxo : (⟨ser, tm, val⟩ : Nm).ok := ⟨by simp only; omega, by simp only; omega, by simp only; omega, by simp only; omega, by simp only; omega, by simp only; omega⟩
    refine ⟨rfl, ⟨h.ok, h.hc, h.hnow, h.pub, h.gone, h.live.add _ h.ok.n1, ?_, ?_, ?_, settled_free h.free, ?_, h.time⟩⟩
    · show ((m.nums ++ [Nm.mk ser tm val]).length : Int) ≤ usedL (addL c L ⟨ser, tm, val⟩)
      rw [hua, List.length_append]; simp; omega
    · show usedL (addL c L ⟨ser, tm, val⟩) ≤ c.qu
      rw [hua]; omega
    · intro x hx
      have hx2 : x ∈ m.nums ++ [Nm.mk ser tm val] := hx
      rcases List.mem_append.1 hx2 with hx2 | hx2
      · exact h.nums x hx2
      · rw [List.mem_singleton.1 hx2]; exact hxo
    · have h1 := settled_len { m with nums := m.nums ++ [Nm.mk ser tm val] }
      have h4 := segsTo_len c (m.nums ++ [Nm.mk ser tm val]) (c.n + 1)
      have h5 : (m.nums ++ [Nm.mk ser tm val]).length ≤ 401 := by have := h.len; simp; omega
      have h6 := h.ok.n4
      have h7 : (c.n + 1) * (m.nums ++ [Nm.mk ser tm val]).length ≤ 5 * 401 := Nat.mul_le_mul (by omega) h5
      have h8 : (segsOf c (m.nums ++ [Nm.mk ser tm val])).length ≤ 2005 := by unfold segsOf; omega
      have h9 : (segsOf ({ m with nums := m.nums ++ [Nm.mk ser tm val] } : RM).c ({ m with nums := m.nums ++ [Nm.mk ser tm val] } : RM).nums).length ≤ 2005 := by show (segsOf m.c (m.nums ++ [Nm.mk ser tm val])).length ≤ 2005; rw [h.hc]; exact h8
      exact Nat.le_trans h1 (by omega)

/-- P6. -/
theorem Sim.query (h : Sim c m now L) (t ser win : Int) : m.query t ser win = pquery c now L t ser win := by
  by_cases p1 : t < -1 ∨ m.c.n ≤ t ∨ ser < 0 ∨ 4 ≤ ser ∨ win < 0 ∨ 100000 < win
  · rw [query_bad p1]
    have e : inB t (-1) ((c.n : Int) - 1) = false ∨ serB ser = false ∨ win < 0 ∨ 100000 < win := by
      rw [h.hc] at p1
      rcases p1 with p | p | p | p | p | p
      · left; rw [inB_false]; omega
      · left; rw [inB_false]; omega
      · right; left; unfold serB; simp; omega
      · right; left; unfold serB; simp; omega
      · right; right; left; exact p
      · right; right; right; exact p
    unfold pquery; rw [if_pos e]; rfl
  · have e : ¬ (inB t (-1) ((c.n : Int) - 1) = false ∨ serB ser = false ∨ win < 0 ∨ 100000 < win) := by
      rw [h.hc] at p1
      rintro (q | q | q | q)
      · rw [inB_false] at q; omega
      · unfold serB at q; simp at q; omega
      · omega
      · omega
    have ee : m.c.end ⟨t, ser, win⟩ = (win + 1) * c.width t := by rw [h.hc]; rfl
    by_cases p2 : m.now - m.c.la < m.c.end ⟨t, ser, win⟩
    · rw [query_open p1 p2]
      unfold pquery
      rw [if_neg e, if_pos (by rw [ee, h.hnow, h.hc] at p2; exact p2)]; rfl
    · rw [query_same (L := L) (by rw [h.hc]; exact h.live) h.gone h.pub p1 p2]
      unfold pquery
      rw [if_neg e, if_neg (by rw [ee, h.hnow, h.hc] at p2; exact p2)]

/-- P9. -/
theorem Sim.stats (h : Sim c m now L) : scOf m (segsOf m.c m.nums) = ⟨countL L 1, countL L 2, countL L 3, 0⟩ ∧ m.used = usedL L ∧ m.tightI = tightN (usedL L) c.qu := by
  refine ⟨sc_same (by rw [h.hc]; exact h.live) h.gone h.pub, h.used, ?_⟩
  have e : m.tight = decide (3 * c.qu < 4 * usedL L) := by unfold RM.tight; rw [h.used, h.hc]
  unfold RM.tightI tightN
  rw [e]
  by_cases p : 3 * c.qu < 4 * usedL L <;> simp [p]

theorem sim_new (c : Cf) (hc : c.ok) (ep : Int) : Sim c ⟨c, 0, [], [], [], [], ep, 0⟩ 0 [] :=
  ⟨hc, rfl, rfl, rfl, rfl, live_nil c, by simp [usedL, sumI], by have := hc.qu; simp [usedL, sumI]; omega, by simp, by simp, by simp, by simp⟩
end
end Go.Proofs.YtgadceofpbfleaaGreat
