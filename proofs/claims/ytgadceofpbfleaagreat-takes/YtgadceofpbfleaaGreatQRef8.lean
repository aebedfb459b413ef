import Derived.Test.YtgadceofpbfleaaGreatQRef7
import Derived.Laws.ResultCell

/- Walks: Query of the document's mill. -/
namespace Go.Proofs.YtgadceofpbfleaaGreat
open Go.RowKit
set_option linter.unusedVariables false

theorem results_row_tmp {P : Program} {fn : Func} {p u : Tmp} {ty : TypeId} (h : fn.results = #[.cell p ty, .tmp u]) (tmps : Array Value) (w : World) (g : Nat) (t : TypeId) (cs : Array Value) (fr : Nat × Nat) (d : TypeDesc) (x : Value)
    (hp : tmps.getD p undef = .pointer (some ⟨g, 0, none⟩)) (hx : tmps.getD u undef = x) (hg : w.heap[g]? = some (.cells cs t fr))
    (hu : P.underlying ty = some d) (hd : (match d with | .struct _ | .array _ _ => true | _ => false) = true) (hi : (P.info? ty).map (·.size) = some cs.size) :
    (results fn tmps).run P w = .ok (.tuple #[.agg cs, x]) w := by
  rw [results_cell_tmp h, hp, hx]
  simp [asAddr, run_loadVar_row w g t ty cs fr d hg hu hd hi, Result.andThen]

/-- P6, plainly. -/
def RM.query (m : RM) (t ser win : Int) : Cl × Int :=
  if t < -1 ∨ m.c.n ≤ t ∨ ser < 0 ∨ 4 ≤ ser ∨ win < 0 ∨ 100000 < win then (⟨0, 0, 0, 0⟩, 2)
  else if m.now - m.c.la < m.c.end ⟨t, ser, win⟩ then (⟨0, 0, 0, 0⟩, 9)
  else if (cellOf m.c ⟨t, ser, win⟩ m.nums).cnt = 0 then (⟨0, 0, 0, 0⟩, 10)
  else if (⟨t, ser, win⟩ : Sg) ∈ m.gone then (⟨0, 0, 0, 0⟩, 12)
  else if 0 ≤ t ∧ ¬ (⟨t, ser, win⟩ : Sg) ∈ m.pub then (⟨0, 0, 0, 0⟩, 11)
  else (cellOf m.c ⟨t, ser, win⟩ m.nums, 0)
theorem query_bad {m : RM} {t ser win : Int} (h : t < -1 ∨ m.c.n ≤ t ∨ ser < 0 ∨ 4 ≤ ser ∨ win < 0 ∨ 100000 < win) : m.query t ser win = (⟨0, 0, 0, 0⟩, 2) := by simp [RM.query, h]
theorem query_open {m : RM} {t ser win : Int} (h : ¬ (t < -1 ∨ m.c.n ≤ t ∨ ser < 0 ∨ 4 ≤ ser ∨ win < 0 ∨ 100000 < win)) (h1 : m.now - m.c.la < m.c.end ⟨t, ser, win⟩) : m.query t ser win = (⟨0, 0, 0, 0⟩, 9) := by
  unfold RM.query; rw [if_neg h, if_pos h1]
theorem query_empty {m : RM} {t ser win : Int} (h : ¬ (t < -1 ∨ m.c.n ≤ t ∨ ser < 0 ∨ 4 ≤ ser ∨ win < 0 ∨ 100000 < win)) (h1 : ¬ m.now - m.c.la < m.c.end ⟨t, ser, win⟩) (h2 : (cellOf m.c ⟨t, ser, win⟩ m.nums).cnt = 0) : m.query t ser win = (⟨0, 0, 0, 0⟩, 10) := by
  unfold RM.query; rw [if_neg h, if_neg h1, if_pos h2]
theorem query_gone {m : RM} {t ser win : Int} (h : ¬ (t < -1 ∨ m.c.n ≤ t ∨ ser < 0 ∨ 4 ≤ ser ∨ win < 0 ∨ 100000 < win)) (h1 : ¬ m.now - m.c.la < m.c.end ⟨t, ser, win⟩) (h2 : ¬ (cellOf m.c ⟨t, ser, win⟩ m.nums).cnt = 0) (h3 : (⟨t, ser, win⟩ : Sg) ∈ m.gone) : m.query t ser win = (⟨0, 0, 0, 0⟩, 12) := by
  unfold RM.query; rw [if_neg h, if_neg h1, if_neg h2, if_pos h3]
theorem query_wait {m : RM} {t ser win : Int} (h : ¬ (t < -1 ∨ m.c.n ≤ t ∨ ser < 0 ∨ 4 ≤ ser ∨ win < 0 ∨ 100000 < win)) (h1 : ¬ m.now - m.c.la < m.c.end ⟨t, ser, win⟩) (h2 : ¬ (cellOf m.c ⟨t, ser, win⟩ m.nums).cnt = 0) (h3 : ¬ (⟨t, ser, win⟩ : Sg) ∈ m.gone) (h4 : 0 ≤ t ∧ ¬ (⟨t, ser, win⟩ : Sg) ∈ m.pub) : m.query t ser win = (⟨0, 0, 0, 0⟩, 11) := by
  unfold RM.query; rw [if_neg h, if_neg h1, if_neg h2, if_neg h3, if_pos h4]
theorem query_ok {m : RM} {t ser win : Int} (h : ¬ (t < -1 ∨ m.c.n ≤ t ∨ ser < 0 ∨ 4 ≤ ser ∨ win < 0 ∨ 100000 < win)) (h1 : ¬ m.now - m.c.la < m.c.end ⟨t, ser, win⟩) (h2 : ¬ (cellOf m.c ⟨t, ser, win⟩ m.nums).cnt = 0) (h3 : ¬ (⟨t, ser, win⟩ : Sg) ∈ m.gone) (h4 : ¬ (0 ≤ t ∧ ¬ (⟨t, ser, win⟩ : Sg) ∈ m.pub)) : m.query t ser win = (cellOf m.c ⟨t, ser, win⟩ m.nums, 0) := by
  unfold RM.query; rw [if_neg h, if_neg h1, if_neg h2, if_neg h3, if_neg h4]

def clV (A : Cl) : Value := .agg #[.int .i64 A.cnt, .int .i64 A.sum, .int .i32 A.mn, .int .i32 A.mx]
theorem ret_query {m : RM} {t ser win : Int} {A : Cl} {x : Int} (h : m.query t ser win = (A, x)) : Ending.returned (.tuple #[.agg #[.int .i64 A.cnt, .int .i64 A.sum, .int .i32 A.mn, .int .i32 A.mx], .int .i64 x]) = .returned (.tuple #[clV (m.query t ser win).1, .int .i64 (m.query t ser win).2]) := by rw [h]; rfl

set_option maxHeartbeats 4000000 in
theorem rquery_any {B : Nat} {w : World} {p : Nat} {m : RM} {tv nv pv gv kv : Value} (h : RefAt B w p m tv nv pv gv kv) (hc : m.c.ok) (hnl : m.nums.length ≤ 1000000000) (hgl : m.gone.length ≤ 1000000000000) (hpl : m.pub.length ≤ 1000000000000) (hno : ∀ x ∈ m.nums, x.ok) (hnow : 0 ≤ m.now ∧ m.now ≤ 100000) (t ser win : Int) :
    Calls Tryz.prog 37 #[.pointer (some ⟨p, 0, none⟩), .int .i64 t, .int .i64 ser, .int .i64 win] w fun e w' => e = .returned (.tuple #[clV (m.query t ser win).1, .int .i64 (m.query t ser win).2]) ∧ Below w.heap.size w w' := by
  have H := hide h
  have b1 := rlast w (.cells #[.int .i64 0, .int .i64 0, .int .i32 0, .int .i32 0] 91)
  have hbw : Below w.heap.size w (w.alloc (.cells #[.int .i64 0, .int .i64 0, .int .i32 0, .int .i32 0] 91)) := (Below.refl _ _).alloc (Nat.le_refl _) _
  have hp := h.lt
  obtain ⟨at_, ct, htv⟩ := row_slice h.trow
  subst htv
  obtain ⟨c0, c1, c2, c3, c4, c5, c6⟩ := h.conf
  clear c0 c1 c3 c4 c5
  obtain ⟨r7, r8, r9, r10, r11, r12, r13⟩ := h.rest
  clear r8 r9 r10 r11 r12 r13
  have B1 := hide b1
  clear h b1
  by_cases hh : t < -1
  · have HQ := hide (query_bad (m := m) (t := t) (ser := ser) (win := win) (.inl hh))
    go_enter Tryz.func37, Tryz.ntmps37
    go_wp2_with fail
    refine bodyPost_ret (v := .tuple #[.agg #[.int .i64 0, .int .i64 0, .int .i32 0, .int .i32 0], .int .i64 2]) (results_row_tmp Tryz.results37 _ _ w.heap.size _ _ _ _ _ rfl rfl (rlast w _) Tryz.underlying91 rfl (by kernel_rfl)) rfl ⟨ret_query (unhide HQ), hbw⟩
  have hh0 := hh
  clear hh
  by_cases hh : (m.c.n : Int) ≤ t
  · have HQ := hide (query_bad (m := m) (t := t) (ser := ser) (win := win) (.inr (.inl hh)))
    go_enter Tryz.func37, Tryz.ntmps37
    go_wp2_with fail
    refine bodyPost_ret (v := .tuple #[.agg #[.int .i64 0, .int .i64 0, .int .i32 0, .int .i32 0], .int .i64 2]) (results_row_tmp Tryz.results37 _ _ w.heap.size _ _ _ _ _ rfl rfl (rlast w _) Tryz.underlying91 rfl (by kernel_rfl)) rfl ⟨ret_query (unhide HQ), hbw⟩
  have hh1 := hh
  clear hh
  by_cases hh : ser < 0
  · have HQ := hide (query_bad (m := m) (t := t) (ser := ser) (win := win) (.inr (.inr (.inl hh))))
    go_enter Tryz.func37, Tryz.ntmps37
    go_wp2_with fail
    refine bodyPost_ret (v := .tuple #[.agg #[.int .i64 0, .int .i64 0, .int .i32 0, .int .i32 0], .int .i64 2]) (results_row_tmp Tryz.results37 _ _ w.heap.size _ _ _ _ _ rfl rfl (rlast w _) Tryz.underlying91 rfl (by kernel_rfl)) rfl ⟨ret_query (unhide HQ), hbw⟩
  have hh2 := hh
  clear hh
  by_cases hh : 4 ≤ ser
  · have HQ := hide (query_bad (m := m) (t := t) (ser := ser) (win := win) (.inr (.inr (.inr (.inl hh)))))
    go_enter Tryz.func37, Tryz.ntmps37
    go_wp2_with fail
    refine bodyPost_ret (v := .tuple #[.agg #[.int .i64 0, .int .i64 0, .int .i32 0, .int .i32 0], .int .i64 2]) (results_row_tmp Tryz.results37 _ _ w.heap.size _ _ _ _ _ rfl rfl (rlast w _) Tryz.underlying91 rfl (by kernel_rfl)) rfl ⟨ret_query (unhide HQ), hbw⟩
  have hh3 := hh
  clear hh
  by_cases hh : win < 0
  · have HQ := hide (query_bad (m := m) (t := t) (ser := ser) (win := win) (.inr (.inr (.inr (.inr (.inl hh))))))
    go_enter Tryz.func37, Tryz.ntmps37
    go_wp2_with fail
    refine bodyPost_ret (v := .tuple #[.agg #[.int .i64 0, .int .i64 0, .int .i32 0, .int .i32 0], .int .i64 2]) (results_row_tmp Tryz.results37 _ _ w.heap.size _ _ _ _ _ rfl rfl (rlast w _) Tryz.underlying91 rfl (by kernel_rfl)) rfl ⟨ret_query (unhide HQ), hbw⟩
  have hh4 := hh
  clear hh
  by_cases hh : 100000 < win
  · have HQ := hide (query_bad (m := m) (t := t) (ser := ser) (win := win) (.inr (.inr (.inr (.inr (.inr hh))))))
    go_enter Tryz.func37, Tryz.ntmps37
    go_wp2_with fail
    refine bodyPost_ret (v := .tuple #[.agg #[.int .i64 0, .int .i64 0, .int .i32 0, .int .i32 0], .int .i64 2]) (results_row_tmp Tryz.results37 _ _ w.heap.size _ _ _ _ _ rfl rfl (rlast w _) Tryz.underlying91 rfl (by kernel_rfl)) rfl ⟨ret_query (unhide HQ), hbw⟩
  have hh5 := hh
  clear hh
  have hbad : ¬ (t < -1 ∨ m.c.n ≤ t ∨ ser < 0 ∨ 4 ≤ ser ∨ win < 0 ∨ 100000 < win) := by omega
  have BAD := hide hbad
  clear hbad
  obtain ⟨b0, b1, hbw2, bz⟩ := box2 w (.cells #[.int .i64 0, .int .i64 0, .int .i32 0, .int .i32 0] 91) (.cells #[.int .i64 t, .int .i64 ser, .int .i64 win] 126)
  have ht1 : -1 ≤ t := by omega
  have ht2 : t < m.c.n := by omega
  have hw1 : 0 ≤ win := by omega
  have hw2 : win ≤ 100000 := by omega
  have hla := hc.la
  have HEND := hide (end_any ((unhide H).later hbw2) hc ⟨t, ser, win⟩ ht1 ht2 hw1 hw2)
  have heb := hc.ends (s := ⟨t, ser, win⟩) ht1 ht2 hw1 hw2
  obtain ⟨heb1, heb2⟩ := heb
  obtain ⟨sg, hsg⟩ : ∃ sg : Sg, sg = ⟨t, ser, win⟩ := ⟨_, rfl⟩
  have B0 := hide b0
  have B1 := hide b1
  have BZ := hide bz
  clear b0 b1 bz
  go_enter Tryz.func37, Tryz.ntmps37
  go_wp2_with fail
  generalize hW : ((w.alloc (.cells #[.int .i64 0, .int .i64 0, .int .i32 0, .int .i32 0] 91)).alloc (.cells #[.int .i64 t, .int .i64 ser, .int .i64 win] 126)) = W at *
  refine (unhide HEND).mono ?_
  rintro e w1 ⟨rfl, hb1⟩
  have hpw := hp
  have d2 : w1.cell? ⟨p, 2, none⟩ = some (.int .i64 m.c.la) := ((hbw2.trans (hb1.mono hbw2.size)).cell (p := ⟨p, 2, none⟩) hp).trans c2
  have d7 : w1.cell? ⟨p, 7, none⟩ = some (.int .i64 m.now) := ((hbw2.trans (hb1.mono hbw2.size)).cell (p := ⟨p, 7, none⟩) hp).trans r7
  have hp1 : p < w1.heap.size := Nat.lt_of_lt_of_le hp (hbw2.trans (hb1.mono hbw2.size)).size
  have hne : Nonempty (Later w1.heap.size w1) := Later.some _ _
  have hlc := fun (u : Later w1.heap.size w1) b o h => u.cell b o h
  have HB1 := hide hb1
  clear c2 r7 c6 hb1 hsg sg
  by_cases ho : m.now - m.c.la < m.c.end ⟨t, ser, win⟩
  · have HQ := hide (query_open (unhide BAD) ho)
    go_wp2_with fail
    refine wp_region_later w1.heap.size (by kernel_rfl) (by kernel_rfl) ?_
    repeat (go_big_quiet_step (fail))
    refine wpQuiet_nil ?_
    rintro ⟨w2, hb2⟩
    dsimp only
    clear hlc hne
    have FB := hide ((unhide HB1).trans (hb2.mono (unhide HB1).size))
    have qz := ((unhide FB).block w.heap.size (by have := unhide BZ; omega)).trans (unhide B0)
    have f0 : w2.cell? ⟨w.heap.size, 0, none⟩ = some (.int .i64 0) := by rw [rcell qz]; rfl
    have f1 : w2.cell? ⟨w.heap.size, 1, none⟩ = some (.int .i64 0) := by rw [rcell qz]; rfl
    have f2 : w2.cell? ⟨w.heap.size, 2, none⟩ = some (.int .i32 0) := by rw [rcell qz]; rfl
    have f3 : w2.cell? ⟨w.heap.size, 3, none⟩ = some (.int .i32 0) := by rw [rcell qz]; rfl
    have ff : ∀ j, w2.frozen? ⟨w.heap.size, j, none⟩ = false := fun j => rfree qz j
    have hzz : w.heap.size < w2.heap.size := lt_of_heap qz
    have QZ := hide qz
    clear qz
    go_wp2_with fail
    have hf := set4 (unhide QZ) (.int .i64 0) (.int .i64 0) (.int .i32 0) (.int .i32 0)
    refine bodyPost_ret (v := .tuple #[.agg #[.int .i64 0, .int .i64 0, .int .i32 0, .int .i32 0], .int .i64 9]) (results_row_tmp Tryz.results37 _ _ w.heap.size _ _ _ _ _ rfl rfl hf Tryz.underlying91 rfl (by kernel_rfl)) rfl ⟨ret_query (unhide HQ), ?_⟩
    refine (hbw2.trans ((unhide FB).mono hbw2.size)).trans ?_
    repeat (refine below_set ?_ (Nat.le_refl _))
    exact Below.refl _ _
  · go_wp2_with fail
    refine wp_region_later w1.heap.size (by kernel_rfl) (by kernel_rfl) ?_
    repeat (go_big_quiet_step (fail))
    refine wpQuiet_nil ?_
    rintro ⟨w2, hb2⟩
    dsimp only
    clear hlc hne
    have HB2 := hide ((unhide HB1).trans (hb2.mono (unhide HB1).size))
    have q := ((unhide HB2).block (w.heap.size + 1) (by have := unhide BZ; omega)).trans (unhide B1)
    have s0 : w2.cell? ⟨w.heap.size + 1, 0, none⟩ = some (.int .i64 t) := by rw [rcell q]; rfl
    have s1 : w2.cell? ⟨w.heap.size + 1, 1, none⟩ = some (.int .i64 ser) := by rw [rcell q]; rfl
    have s2 : w2.cell? ⟨w.heap.size + 1, 2, none⟩ = some (.int .i64 win) := by rw [rcell q]; rfl
    have hb02 := hbw2.trans ((unhide HB2).mono hbw2.size)
    have HCE := hide (cell_any ((unhide H).later hb02) hc hnl hno ⟨t, ser, win⟩ ht1 ht2)
    clear q d2 d7 hb2 HB1
    go_wp2_with fail
    refine (unhide HCE).mono ?_
    rintro e w3 ⟨rfl, hb3⟩
    have hbx : ∀ o, Below w2.heap.size w2 (w3.alloc o) := fun o => hb3.alloc hb3.size o
    have hy0 : ∀ o, (w3.alloc o).heap[w3.heap.size]? = some o := fun o => rlast w3 o
    have hyz : ∀ o, w3.heap.size < (w3.alloc o).heap.size := fun o => by rw [rsize]; omega
    have hcb := cellOf_bound (c := m.c) (s := ⟨t, ser, win⟩) (nums := m.nums) hno
    have HQA : Hid (∀ A, A = cellOf m.c ⟨t, ser, win⟩ m.nums → (A.cnt = 0 → m.query t ser win = (⟨0, 0, 0, 0⟩, 10)) ∧ (¬ A.cnt = 0 → (⟨t, ser, win⟩ : Sg) ∈ m.gone → m.query t ser win = (⟨0, 0, 0, 0⟩, 12)) ∧ (¬ A.cnt = 0 → ¬ (⟨t, ser, win⟩ : Sg) ∈ m.gone → (0 ≤ t ∧ ¬ (⟨t, ser, win⟩ : Sg) ∈ m.pub) → m.query t ser win = (⟨0, 0, 0, 0⟩, 11)) ∧ (¬ A.cnt = 0 → ¬ (⟨t, ser, win⟩ : Sg) ∈ m.gone → ¬ (0 ≤ t ∧ ¬ (⟨t, ser, win⟩ : Sg) ∈ m.pub) → m.query t ser win = (A, 0))) := fun A hA => by
      subst hA
      exact ⟨query_empty (unhide BAD) (by omega), query_gone (unhide BAD) (by omega), query_wait (unhide BAD) (by omega), query_ok (unhide BAD) (by omega)⟩
    have HQA := hide (unhide HQA _ rfl)
    have hq3 : p < w3.heap.size := Nat.lt_of_lt_of_le hp (hb02.trans (hb3.mono hb02.size)).size
    generalize cellOf m.c ⟨t, ser, win⟩ m.nums = A at *
    obtain ⟨hcb1, hcb2, -⟩ := hcb
    go_wp2_with fail
    have HY0 := hide (hy0 (.cells #[.int .i64 A.cnt, .int .i64 A.sum, .int .i32 A.mn, .int .i32 A.mx] 91))
    have HBX := hide (hbx (.cells #[.int .i64 A.cnt, .int .i64 A.sum, .int .i32 A.mn, .int .i32 A.mx] 91))
    have HYZ := hide (hyz (.cells #[.int .i64 A.cnt, .int .i64 A.sum, .int .i32 A.mn, .int .i32 A.mx] 91))
    clear hy0 hbx hyz s0 s1 s2
    generalize hX : (w3.alloc (.cells #[.int .i64 A.cnt, .int .i64 A.sum, .int .i32 A.mn, .int .i32 A.mx] 91)) = X at *
    clear hX
    have hb0X : Below w.heap.size w X := hb02.trans ((unhide HBX).mono hb02.size)
    have HBX2 := hide ((unhide HB2).trans ((unhide HBX).mono (unhide HB2).size))
    have q := ((unhide HBX2).block (w.heap.size + 1) (by have := unhide BZ; omega)).trans (unhide B1)
    have s0 : X.cell? ⟨w.heap.size + 1, 0, none⟩ = some (.int .i64 t) := by rw [rcell q]; rfl
    have s1 : X.cell? ⟨w.heap.size + 1, 1, none⟩ = some (.int .i64 ser) := by rw [rcell q]; rfl
    have s2 : X.cell? ⟨w.heap.size + 1, 2, none⟩ = some (.int .i64 win) := by rw [rcell q]; rfl
    have hsX : w.heap.size + 1 < X.heap.size := lt_of_heap q
    have HRX := hide ((unhide H).later hb0X)
    obtain ⟨r7, r8, r9, r10, r11, r12, r13⟩ := (unhide HRX).rest
    have hpX := (unhide HRX).lt
    obtain ⟨ag, cg, hgv⟩ := row_slice (unhide HRX).grow
    subst hgv
    obtain ⟨ap, cp, hpv⟩ := row_slice (unhide HRX).prow
    subst hpv
    have HAG := hide (fun (u : Later X.heap.size X) => among_any B m.gone _ ⟨t, ser, win⟩ u.1 (by omega) ((unhide HRX).later u.2).grow)
    have HAP := hide (fun (w4 : World) (hb4 : Below X.heap.size X w4) (u : Later w4.heap.size w4) => among_any B m.pub _ ⟨t, ser, win⟩ u.1 (by omega) ((unhide HRX).later (hb4.trans (u.2.mono hb4.size))).prow)
    have hne : Nonempty (Later X.heap.size X) := Later.some _ _
    have hlc := fun (u : Later X.heap.size X) b o h => u.cell b o h
    clear q r7 r8 r11 r12 r13 hb3 HCE hb02
    refine wp_region_later X.heap.size (by kernel_rfl) (by kernel_rfl) ?_
    repeat (go_big_quiet_step (first | (go_at_call 67; exact Calls.later (Nat.le_refl _) (unhide HAG _))))
    refine wpQuiet_nil ?_
    rintro ⟨w4, hb4⟩
    dsimp only
    clear hlc hne
    have y9 := (hb4.cell (p := ⟨p, 9, none⟩) hpX).trans r9
    have y0 := (hb4.cell (p := ⟨w.heap.size + 1, 0, none⟩) hsX).trans s0
    have y1 := (hb4.cell (p := ⟨w.heap.size + 1, 1, none⟩) hsX).trans s1
    have y2 := (hb4.cell (p := ⟨w.heap.size + 1, 2, none⟩) hsX).trans s2
    have hp4 : p < w4.heap.size := Nat.lt_of_lt_of_le hpX hb4.size
    have hs4 : w.heap.size + 1 < w4.heap.size := Nat.lt_of_lt_of_le hsX hb4.size
    have hne : Nonempty (Later w4.heap.size w4) := Later.some _ _
    have hlc := fun (u : Later w4.heap.size w4) b o h => u.cell b o h
    go_wp2_with fail
    refine wp_region_later w4.heap.size (by kernel_rfl) (by kernel_rfl) ?_
    repeat (go_big_quiet_step (first | (go_at_call 67; exact Calls.later (Nat.le_refl _) (unhide HAP w4 hb4 _))))
    refine wpQuiet_nil ?_
    rintro ⟨w5, hb5⟩
    dsimp only
    clear hlc hne
    have hb45 : Below X.heap.size X w5 := hb4.trans (hb5.mono hb4.size)
    have FB := hide ((unhide HBX2).trans (hb45.mono (unhide HBX2).size))
    have qa := (hb45.block w3.heap.size (unhide HYZ)).trans (unhide HY0)
    have g0 : w5.cell? ⟨w3.heap.size, 0, none⟩ = some (.int .i64 A.cnt) := by rw [rcell qa]; rfl
    have g1 : w5.cell? ⟨w3.heap.size, 1, none⟩ = some (.int .i64 A.sum) := by rw [rcell qa]; rfl
    have g2 : w5.cell? ⟨w3.heap.size, 2, none⟩ = some (.int .i32 A.mn) := by rw [rcell qa]; rfl
    have g3 : w5.cell? ⟨w3.heap.size, 3, none⟩ = some (.int .i32 A.mx) := by rw [rcell qa]; rfl
    clear qa y0 y1 y2 y9 s0 s1 s2 r9 r10 hb4 hb5
    by_cases hz : A.cnt = 0
    · have HQ := hide ((unhide HQA).1 hz)
      have hzb : (A.cnt == 0) = true := by simp [hz]
      clear hz
      have qz := ((unhide FB).block w.heap.size (by have := unhide BZ; omega)).trans (unhide B0)
      have f0 : w5.cell? ⟨w.heap.size, 0, none⟩ = some (.int .i64 0) := by rw [rcell qz]; rfl
      have f1 : w5.cell? ⟨w.heap.size, 1, none⟩ = some (.int .i64 0) := by rw [rcell qz]; rfl
      have f2 : w5.cell? ⟨w.heap.size, 2, none⟩ = some (.int .i32 0) := by rw [rcell qz]; rfl
      have f3 : w5.cell? ⟨w.heap.size, 3, none⟩ = some (.int .i32 0) := by rw [rcell qz]; rfl
      have ff : ∀ j, w5.frozen? ⟨w.heap.size, j, none⟩ = false := fun j => rfree qz j
      have hzz : w.heap.size < w5.heap.size := lt_of_heap qz
      have QZ := hide qz
      clear qz
      go_wp2_with fail
      have hf := set4 (unhide QZ) (.int .i64 0) (.int .i64 0) (.int .i32 0) (.int .i32 0)
      refine bodyPost_ret (v := .tuple #[.agg #[.int .i64 0, .int .i64 0, .int .i32 0, .int .i32 0], .int .i64 10]) (results_row_tmp Tryz.results37 _ _ w.heap.size _ _ _ _ _ rfl rfl hf Tryz.underlying91 rfl (by kernel_rfl)) rfl ⟨ret_query (unhide HQ), ?_⟩
      refine (hbw2.trans ((unhide FB).mono hbw2.size)).trans ?_
      repeat (refine below_set ?_ (Nat.le_refl _))
      exact Below.refl _ _
    · have hzb : (A.cnt == 0) = false := by simp [hz]
      rcases memB_cases ⟨t, ser, win⟩ m.gone with ⟨hm, hm2⟩ | ⟨hm, hm2⟩
      · have HQ := hide ((unhide HQA).2.1 hz hm2)
        rw [hm]
        clear hz hm hm2
        have qz := ((unhide FB).block w.heap.size (by have := unhide BZ; omega)).trans (unhide B0)
        have f0 : w5.cell? ⟨w.heap.size, 0, none⟩ = some (.int .i64 0) := by rw [rcell qz]; rfl
        have f1 : w5.cell? ⟨w.heap.size, 1, none⟩ = some (.int .i64 0) := by rw [rcell qz]; rfl
        have f2 : w5.cell? ⟨w.heap.size, 2, none⟩ = some (.int .i32 0) := by rw [rcell qz]; rfl
        have f3 : w5.cell? ⟨w.heap.size, 3, none⟩ = some (.int .i32 0) := by rw [rcell qz]; rfl
        have ff : ∀ j, w5.frozen? ⟨w.heap.size, j, none⟩ = false := fun j => rfree qz j
        have hzz : w.heap.size < w5.heap.size := lt_of_heap qz
        have QZ := hide qz
        clear qz
        go_wp2_with fail
        have hf := set4 (unhide QZ) (.int .i64 0) (.int .i64 0) (.int .i32 0) (.int .i32 0)
        refine bodyPost_ret (v := .tuple #[.agg #[.int .i64 0, .int .i64 0, .int .i32 0, .int .i32 0], .int .i64 12]) (results_row_tmp Tryz.results37 _ _ w.heap.size _ _ _ _ _ rfl rfl hf Tryz.underlying91 rfl (by kernel_rfl)) rfl ⟨ret_query (unhide HQ), ?_⟩
        refine (hbw2.trans ((unhide FB).mono hbw2.size)).trans ?_
        repeat (refine below_set ?_ (Nat.le_refl _))
        exact Below.refl _ _
      · by_cases hw : 0 ≤ t ∧ ¬ (⟨t, ser, win⟩ : Sg) ∈ m.pub
        · have HQ := hide ((unhide HQA).2.2.1 hz hm2 hw)
          rw [hm, memB_false hw.2]
          have hw0 := hw.1
          clear hz hm hm2 hw
          have qz := ((unhide FB).block w.heap.size (by have := unhide BZ; omega)).trans (unhide B0)
          have f0 : w5.cell? ⟨w.heap.size, 0, none⟩ = some (.int .i64 0) := by rw [rcell qz]; rfl
          have f1 : w5.cell? ⟨w.heap.size, 1, none⟩ = some (.int .i64 0) := by rw [rcell qz]; rfl
          have f2 : w5.cell? ⟨w.heap.size, 2, none⟩ = some (.int .i32 0) := by rw [rcell qz]; rfl
          have f3 : w5.cell? ⟨w.heap.size, 3, none⟩ = some (.int .i32 0) := by rw [rcell qz]; rfl
          have ff : ∀ j, w5.frozen? ⟨w.heap.size, j, none⟩ = false := fun j => rfree qz j
          have hzz : w.heap.size < w5.heap.size := lt_of_heap qz
          have QZ := hide qz
          clear qz
          go_wp2_with fail
          have hf := set4 (unhide QZ) (.int .i64 0) (.int .i64 0) (.int .i32 0) (.int .i32 0)
          refine bodyPost_ret (v := .tuple #[.agg #[.int .i64 0, .int .i64 0, .int .i32 0, .int .i32 0], .int .i64 11]) (results_row_tmp Tryz.results37 _ _ w.heap.size _ _ _ _ _ rfl rfl hf Tryz.underlying91 rfl (by kernel_rfl)) rfl ⟨ret_query (unhide HQ), ?_⟩
          refine (hbw2.trans ((unhide FB).mono hbw2.size)).trans ?_
          repeat (refine below_set ?_ (Nat.le_refl _))
          exact Below.refl _ _
        · have HQ := hide ((unhide HQA).2.2.2 hz hm2 hw)
          rw [hm]
          clear hz hm2 hm
          by_cases hw0 : 0 ≤ t
          · rw [memB_true (Classical.not_not.1 (fun h => hw ⟨hw0, h⟩))]
            clear hw
            have qz := ((unhide FB).block w.heap.size (by have := unhide BZ; omega)).trans (unhide B0)
            have f0 : w5.cell? ⟨w.heap.size, 0, none⟩ = some (.int .i64 0) := by rw [rcell qz]; rfl
            have f1 : w5.cell? ⟨w.heap.size, 1, none⟩ = some (.int .i64 0) := by rw [rcell qz]; rfl
            have f2 : w5.cell? ⟨w.heap.size, 2, none⟩ = some (.int .i32 0) := by rw [rcell qz]; rfl
            have f3 : w5.cell? ⟨w.heap.size, 3, none⟩ = some (.int .i32 0) := by rw [rcell qz]; rfl
            have ff : ∀ j, w5.frozen? ⟨w.heap.size, j, none⟩ = false := fun j => rfree qz j
            have hzz : w.heap.size < w5.heap.size := lt_of_heap qz
            have QZ := hide qz
            clear qz
            go_wp2_with fail
            have hf := set4 (unhide QZ) (.int .i64 A.cnt) (.int .i64 A.sum) (.int .i32 A.mn) (.int .i32 A.mx)
            refine bodyPost_ret (v := .tuple #[.agg #[.int .i64 A.cnt, .int .i64 A.sum, .int .i32 A.mn, .int .i32 A.mx], .int .i64 0]) (results_row_tmp Tryz.results37 _ _ w.heap.size _ _ _ _ _ rfl rfl hf Tryz.underlying91 rfl (by kernel_rfl)) rfl ⟨ret_query (unhide HQ), ?_⟩
            refine (hbw2.trans ((unhide FB).mono hbw2.size)).trans ?_
            repeat (refine below_set ?_ (Nat.le_refl _))
            exact Below.refl _ _
          · clear hw
            have qz := ((unhide FB).block w.heap.size (by have := unhide BZ; omega)).trans (unhide B0)
            have f0 : w5.cell? ⟨w.heap.size, 0, none⟩ = some (.int .i64 0) := by rw [rcell qz]; rfl
            have f1 : w5.cell? ⟨w.heap.size, 1, none⟩ = some (.int .i64 0) := by rw [rcell qz]; rfl
            have f2 : w5.cell? ⟨w.heap.size, 2, none⟩ = some (.int .i32 0) := by rw [rcell qz]; rfl
            have f3 : w5.cell? ⟨w.heap.size, 3, none⟩ = some (.int .i32 0) := by rw [rcell qz]; rfl
            have ff : ∀ j, w5.frozen? ⟨w.heap.size, j, none⟩ = false := fun j => rfree qz j
            have hzz : w.heap.size < w5.heap.size := lt_of_heap qz
            have QZ := hide qz
            clear qz
            go_wp2_with fail
            have hf := set4 (unhide QZ) (.int .i64 A.cnt) (.int .i64 A.sum) (.int .i32 A.mn) (.int .i32 A.mx)
            refine bodyPost_ret (v := .tuple #[.agg #[.int .i64 A.cnt, .int .i64 A.sum, .int .i32 A.mn, .int .i32 A.mx], .int .i64 0]) (results_row_tmp Tryz.results37 _ _ w.heap.size _ _ _ _ _ rfl rfl hf Tryz.underlying91 rfl (by kernel_rfl)) rfl ⟨ret_query (unhide HQ), ?_⟩
            refine (hbw2.trans ((unhide FB).mono hbw2.size)).trans ?_
            repeat (refine below_set ?_ (Nat.le_refl _))
            exact Below.refl _ _
end Go.Proofs.YtgadceofpbfleaaGreat
