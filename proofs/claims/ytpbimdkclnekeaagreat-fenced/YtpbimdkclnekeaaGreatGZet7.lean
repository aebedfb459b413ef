import Derived.Test.YtpbimdkclnekeaaGreatGCnt0
import Derived.Test.YtpbimdkclnekeaaGreatGJn1
import Derived.Test.YtpbimdkclnekeaaGreatGBrd1

namespace Go.Proofs.YtpbimdkclnekeaaGreat
open Go.RowKit Go.Maps Go.Shelf
open Go.ChangeMaps (setBlock)
set_option linter.unusedVariables false
theorem own_ge0 {w : World} {base : Nat} {e : TypeId} {size : Nat} {v : Value} {n : Nat} {xs : List Value} (h : w.ownsRow base e size v n xs) : ∀ k, v.ownBlock = some k → base ≤ k := fun k hk => by
  rcases h.2 with ⟨rfl, _⟩ | ⟨g, cap, cur, rfl, hb, _⟩
  · simp [Value.ownBlock] at hk
  · simp [Value.ownBlock] at hk; subst hk; exact hb
def standT (L : LV) (f ser a : Int) (j : Nat) : List Cl := (List.range j).filterMap (fun i : Nat => (getL L ⟨f, ser, a + i⟩).map (·.cl))
theorem standT_succ (L : LV) (f ser a : Int) (j : Nat) : standT L f ser a (j + 1) = standT L f ser a j ++ (match getL L ⟨f, ser, a + j⟩ with | some v => [v.cl] | none => []) := by
  unfold standT
  rw [List.range_succ, List.filterMap_append]
  congr 1
  cases h : getL L ⟨f, ser, a + j⟩ <;> simp [h]
theorem standT_len (L : LV) (f ser a : Int) (j : Nat) : (standT L f ser a j).length ≤ j := by
  have := List.length_filterMap_le (fun i : Nat => (getL L ⟨f, ser, a + i⟩).map (·.cl)) (List.range j)
  simpa [standT] using this
def standL (c : Cf) (L : LV) (ser win : Int) (k : Nat) : List Cl := standT L (c.F k) ser (win * manyOf c k) (manyOf c k).toNat
set_option maxRecDepth 20000 in
set_option maxHeartbeats 4000000 in
theorem stands_any {w : World} {s : Nat} {c : Cf} {tv : Value} {lb gb : Nat} {Gl : List (Sg × Unit)} {L : LV} (h : SetAt w s c tv lb gb Gl L) (hc : c.ok) (k : Nat) (hk : k < c.n) (ser win : Int) (hser : i64B ser) (hwn : 0 ≤ win ∧ win ≤ 100000) :
    Calls Tryz.prog 142 #[.pointer (some ⟨s, 0, none⟩), .agg #[.int .i64 k, .int .i64 ser, .int .i64 win]] w fun e w' => ∃ ad g cap, e = .returned (.slice ad (standL c L ser win k).length cap) ∧ (standL c L ser win k ≠ [] → ad = some ⟨g, 0, none⟩) ∧ g < w'.heap.size ∧ CAt w' g (standL c L ser win k) ∧ Below w.heap.size w w' := by
  obtain ⟨a, cap, rfl⟩ := row_slice h.trow
  have hsl := h.lt
  have hts := TS.of_owns h.trow
  obtain ⟨c0, c1, c2, c3, c4, c5, c6, c7, -⟩ := h.cells
  obtain ⟨hm1, hm2⟩ := many_bounds hc hk
  obtain ⟨f1, f2⟩ := hc.F k hk
  have hn4 := hc.n4
  have hp1 : 0 ≤ win * manyOf c k ∧ win * manyOf c k ≤ 100000000 := ⟨Int.mul_nonneg hwn.1 hm1, by have := Int.mul_le_mul hwn.2 hm2 hm1 (by omega); omega⟩
  have hp2 : (win + 1) * manyOf c k = win * manyOf c k + manyOf c k := by rw [Int.add_mul, Int.one_mul]
  have hlen : ∀ j : Nat, j ≤ (manyOf c k).toNat → (standT L (c.F k) ser (win * manyOf c k) j).length ≤ 1000 := fun j hj => by have := standT_len L (c.F k) ser (win * manyOf c k) j; omega
  have HLB := fun W hW => hide (lbelow_any c hc a cap k hk win hwn W (hts.below (w' := W) hW))
  rw [show standL c L ser win k = standT L (c.F k) ser (win * manyOf c k) (manyOf c k).toNat from rfl]
  simp only [hp2] at HLB
  generalize win * manyOf c k = A at *
  generalize manyOf c k = M at *
  have HLEN := hide hlen
  clear hlen hp2
  have hba : Below w.heap.size w (w.alloc (.cells #[.int .i64 k, .int .i64 ser, .int .i64 win] 137)) := (Below.refl _ _).alloc (Nat.le_refl _) _
  have q0 := rlast w (.cells #[.int .i64 k, .int .i64 ser, .int .i64 win] 137)
  have qz := rsize w (.cells #[.int .i64 k, .int .i64 ser, .int .i64 win] 137)
  have k0 : (w.alloc (.cells #[.int .i64 k, .int .i64 ser, .int .i64 win] 137)).cell? ⟨w.heap.size, 0, none⟩ = some (.int .i64 k) := by rw [rcell q0]; rfl
  have k1 : (w.alloc (.cells #[.int .i64 k, .int .i64 ser, .int .i64 win] 137)).cell? ⟨w.heap.size, 1, none⟩ = some (.int .i64 ser) := by rw [rcell q0]; rfl
  have k2 : (w.alloc (.cells #[.int .i64 k, .int .i64 ser, .int .i64 win] 137)).cell? ⟨w.heap.size, 2, none⟩ = some (.int .i64 win) := by rw [rcell q0]; rfl
  have d0 := (hba.cell (p := ⟨s, 0, none⟩) hsl).trans c0
  have d1 := (hba.cell (p := ⟨s, 1, none⟩) hsl).trans c1
  have d2 := (hba.cell (p := ⟨s, 2, none⟩) hsl).trans c2
  have d3 := (hba.cell (p := ⟨s, 3, none⟩) hsl).trans c3
  have d4 := (hba.cell (p := ⟨s, 4, none⟩) hsl).trans c4
  have d5 := (hba.cell (p := ⟨s, 5, none⟩) hsl).trans c5
  have d6 := (hba.cell (p := ⟨s, 6, none⟩) hsl).trans c6
  have HBA := hide hba
  have H := hide h
  have Q0 := hide q0
  have BZ := hide qz
  clear h hts hba q0 c0 c1 c2 c3 c4 c5 c6
  go_enter Tryz.func142, Tryz.ntmps142
  go_wp2_with fail
  have q1 : w.heap.size < w.heap.size + 1 := by omega
  have q2 : s < w.heap.size + 1 := by omega
  generalize (w.alloc (.cells #[.int .i64 k, .int .i64 ser, .int .i64 win] 137)) = X at *
  generalize hN : w.heap.size + 1 = N at *
  have hne : Nonempty (Later N X) := Later.some _ _
  have hlc := fun (u : Later N X) b o h => u.cell b o h
  have hNX : N ≤ X.heap.size := by rw [ud BZ]; exact Nat.le_refl _
  have HNX := hide hNX
  have HNL : Hid (w.heap.size ≤ N) := by show w.heap.size ≤ N; omega
  have HN := hide hN
  clear hNX hN
  refine wp_region_later N (by kernel_rfl) (by kernel_rfl) ?_
  repeat (go_big_quiet_step (first
    | (go_at_call 190; exact Calls.later (ud HNX) (ud (HLB _ ((ud HBA).trans (Below.mono (Subtype.property _) (ud HNL))))))))
  refine wpQuiet_nil ?_
  rintro ⟨w1, hb1⟩
  clear hlc hne
  dsimp only
  go_wp2_with fail
  have hbw1 : Below w.heap.size w w1 := (ud HBA).trans (hb1.mono (ud HNL))
  have hq0 : w1.heap[w.heap.size]? = some (.cells #[.int .i64 k, .int .i64 ser, .int .i64 win] 137 (0, 0)) := (hb1.block _ (by have := ud HN; omega)).trans (ud Q0)
  have hwz1 := lt_of_heap hq0
  have HS1 := hide ((ud H).later hbw1)
  have HQ := hide hq0
  have HBW1 := hide hbw1
  have hfl := ((ud HS1).foot_lt)
  have HFL := hide hfl
  have hlbw1 : lb < w1.heap.size := hfl lb (.inr (.inr (.inl rfl)))
  clear hq0 hbw1 hfl hb1 HBA HLB HNX HNL HN BZ Q0 k0 k1 k2 d0 d1 d2 d3 d4 d5 d6 q1 q2 c7
  go_loopw [5, 9, 10, 11] (fun cv wv _ _ wr => ∃ j : Nat, j ≤ M.toNat ∧ wv = .int .i64 (A + j) ∧ wr.ownsRow w1.heap.size 114 4 cv (standT L (c.F k) ser A j).length ((standT L (c.F k) ser A j).flatMap clCells) ∧ Below w1.heap.size w1 wr)
    (fun _ wv _ _ _ => (A + M - intOf wv).toNat)
  case atStart => exact ⟨0, Nat.zero_le _, by simp, World.ownsRow_nil _ _ _ _, Below.refl _ _⟩
  case round =>
    obtain ⟨j, hj, rfl, hv, hb⟩ := hrel
    obtain ⟨ad, cp, hv0⟩ := row_slice hv
    have hj1 := ud HLEN j hj
    by_cases hlt : j < M.toNat
    · have hlt' : A + j < A + M := by omega
      have hsr := (ud HS1).later hb
      obtain ⟨-, -, -, -, -, -, -, x7, -⟩ := hsr.cells
      have hsrl := hsr.lt
      have hqr := (hb.block _ hwz1).trans (ud HQ)
      have y1 : wr.cell? ⟨w.heap.size, 1, none⟩ = some (.int .i64 ser) := by rw [rcell hqr]; rfl
      have hqrl := lt_of_heap hqr
      have hkw : (⟨c.F k, ser, A + j⟩ : Sg).wf := ⟨by unfold i64B; dsimp only; omega, hser, by unfold i64B; dsimp only; omega⟩
      obtain ⟨sv, hsv⟩ : ∃ sv, stL L ⟨c.F k, ser, A + j⟩ = sv := ⟨_, rfl⟩
      obtain ⟨ok, hok⟩ : ∃ ok, (getL L ⟨c.F k, ser, A + j⟩).isSome = ok := ⟨_, rfl⟩
      have g0 := lookTV (X := wr) hsr.live (Below.refl _ _) hkw
      have g1 := lookTV (X := wr.drew) hsr.live (Below.refl _ _).drew hkw
      have g2 := fun o => lookTV (X := wr.alloc o) hsr.live ((Below.refl _ _).alloc (Nat.le_refl _) o) hkw
      have g3 := fun o => lookTV (X := (wr.alloc o).drew) hsr.live ((Below.refl _ _).alloc (Nat.le_refl _) o).drew hkw
      have g4 := fun o => lookTV (X := wr.drew.alloc o) hsr.live ((Below.refl _ _).drew.alloc (Nat.le_refl _) o) hkw
      rw [hsv, hok] at g0 g1
      simp only [hsv, hok] at g2 g3 g4
      have HV := hide hv
      have HB := hide hb
      have HSV := hide hsv
      have HOK := hide hok
      subst hv0
      clear hv hb hsr hqr hkw hsv hok
      go_wp2_with fail
      go_region
      have hbY : Below wr.heap.size wr ((wr.alloc (.cells #[.int .i64 sv.st, .int .i64 sv.cl.cnt, .int .i64 sv.cl.sum, .int .i32 sv.cl.mn, .int .i32 sv.cl.mx] 131)).drew) := ((Below.refl _ _).alloc (Nat.le_refl _) _).drew
      have hlY : ((wr.alloc (.cells #[.int .i64 sv.st, .int .i64 sv.cl.cnt, .int .i64 sv.cl.sum, .int .i32 sv.cl.mn, .int .i32 sv.cl.mx] 131)).drew).heap[wr.heap.size]? = some (.cells #[.int .i64 sv.st, .int .i64 sv.cl.cnt, .int .i64 sv.cl.sum, .int .i32 sv.cl.mn, .int .i32 sv.cl.mx] 131) := rlast _ _
      have hzY : ((wr.alloc (.cells #[.int .i64 sv.st, .int .i64 sv.cl.cnt, .int .i64 sv.cl.sum, .int .i32 sv.cl.mn, .int .i32 sv.cl.mx] 131)).drew).heap.size = wr.heap.size + 1 := rsize _ _
      generalize ((wr.alloc (.cells #[.int .i64 sv.st, .int .i64 sv.cl.cnt, .int .i64 sv.cl.sum, .int .i32 sv.cl.mn, .int .i32 sv.cl.mx] 131)).drew) = Y at *
      have HBY := hide hbY
      have HLY := hide hlY
      have HZY := hide hzY
      clear g0 g1 g2 g3 g4 x7 y1 hbY hlY hzY
      have hg : standT L (c.F k) ser A (j + 1) = standT L (c.F k) ser A j ++ (if ok then [sv.cl] else []) := by
        rw [standT_succ]
        have h1 := ud HOK
        have h2 := ud HSV
        unfold stL at h2
        cases hgg : getL L ⟨c.F k, ser, A + j⟩ with
        | none => rw [hgg] at h1; simp at h1; subst h1; simp
        | some v => rw [hgg] at h1 h2; simp at h1 h2; subst h1 h2; simp
      have hwz := (ud HB).size
      cases ok with
      | false =>
        have HG := hide (show standT L (c.F k) ser A (j + 1) = standT L (c.F k) ser A j by rw [hg]; simp)
        clear hg
        go_wp2_with fail
        go_roundw
        case rel =>
          refine ⟨j + 1, by omega, by simp; omega, ?_, (ud HB).trans ((ud HBY).mono hwz)⟩
          rw [ud HG]
          exact row_later (ud HV) (ud HBY)
        case measure => simp [intOf]; omega
      | true =>
        have HG := hide (show standT L (c.F k) ser A (j + 1) = standT L (c.F k) ser A j ++ [sv.cl] by rw [hg]; simp)
        clear hg
        have o1 : Y.cell? ⟨wr.heap.size, 1, none⟩ = some (.int .i64 sv.cl.cnt) := by rw [rcell (ud HLY)]; rfl
        have o2 : Y.cell? ⟨wr.heap.size, 2, none⟩ = some (.int .i64 sv.cl.sum) := by rw [rcell (ud HLY)]; rfl
        have o3 : Y.cell? ⟨wr.heap.size, 3, none⟩ = some (.int .i32 sv.cl.mn) := by rw [rcell (ud HLY)]; rfl
        have o4 : Y.cell? ⟨wr.heap.size, 4, none⟩ = some (.int .i32 sv.cl.mx) := by rw [rcell (ud HLY)]; rfl
        have hwY : wr.heap.size < Y.heap.size := by rw [ud HZY]; omega
        have HOW := hide (row_later (ud HV) (ud HBY))
        go_wp2_with (first | (at_builtin; refine push_cl rfl _ _ rfl w1.heap.size (.slice ad (standT L (c.F k) ser A j).length cp) (standT L (c.F k) ser A j) sv.cl rfl ((ud HOW).alloc _) Y.heap.size rfl (rlast _ _) ?hll ?hbb ?_; (case hll => omega); (case hbb => (rw [rsize]; omega)); intro g cap2 Z hown hgrow hltz; have HG2 := hide hgrow; have HO := hide hown; clear hgrow hown) | go_in)
        go_roundw
        case rel =>
          have hyb := (ud HB).trans ((ud HBY).mono hwz)
          have hya := hyb.alloc hyb.size (.cells #[.int .i64 sv.cl.cnt, .int .i64 sv.cl.sum, .int .i32 sv.cl.mn, .int .i32 sv.cl.mx] 114)
          refine ⟨j + 1, by omega, by simp; omega, ?_, hya.grown (ud HG2) hya.size (fun q e => ?_)⟩
          · rw [ud HG]; have := ud HO; rw [List.length_append, List.length_singleton] at this ⊢; exact this
          · exact own_ge0 (ud HV) q e
        case measure => simp [intOf]; omega
    · obtain rfl : j = M.toNat := by omega
      have hnl : decide (A + (M.toNat : Int) < A + M) = false := by simp; omega
      subst hv0
      have HV := hide hv
      have HB := hide hb
      clear hv hb
      go_wp2_with fail
      go_ret
      have hv := ud HV
      have hB := (ud HBW1).trans ((ud HB).mono (ud HBW1).size)
      by_cases h0 : 0 < (standT L (c.F k) ser A M.toNat).length
      · obtain ⟨g, cap', hvv, hbg, hlg⟩ := hv.form h0
        cases hvv
        exact ⟨_, g, _, rfl, fun _ => rfl, hlg, CAt.of_owns hv, hB⟩
      · have hnil : standT L (c.F k) ser A M.toNat = [] := List.eq_nil_of_length_eq_zero (by omega)
        exact ⟨_, s, _, rfl, fun hh => absurd hnil hh, by have := (ud H).lt; have := hB.size; omega, by rw [hnil]; intro j x hx; simp at hx, hB⟩
end Go.Proofs.YtpbimdkclnekeaaGreat

namespace Go.Proofs.YtpbimdkclnekeaaGreat
open Go.RowKit Go.Maps Go.Shelf
open Go.ChangeMaps (setBlock)
set_option linter.unusedVariables false
theorem del_live {X : World} {lb : Nat} {L : LV} (h : MapAt liveM X lb L) {k : Sg} (hk : k.wf) (ty : TypeId) :
    ∃ o, (Builtin.delete_ #[135, 137] ty #[.map (some lb), .agg #[.int .i64 k.t, .int .i64 k.ser, .int .i64 k.win]]).run Tryz.prog X = .ok (.tuple #[]) (setBlock X lb o) ∧ MapAt liveM (setBlock X lb o) lb (delM L k) ∧ Kept (fun k => k = lb) X (setBlock X lb o) := by
  obtain ⟨es, cl, hb, he⟩ := h
  obtain ⟨es', h1, h2, h3⟩ := run_delM live_ok hb he hk ty
  exact ⟨.map es' cl, h1, ⟨es', cl, setBlock_at (lt_of_heap hb) _, h2⟩, kept_block _⟩
theorem SetAt.putLive {w w' : World} {s : Nat} {c : Cf} {tv : Value} {lb gb : Nat} {Gl : List (Sg × Unit)} {L L' : LV} (h : SetAt w s c tv lb gb Gl L) (hm : MapAt liveM w' lb L') (hk : Kept (fun k => k = lb) w w') : SetAt w' s c tv lb gb Gl L' := by
  have ne_cells : ∀ {k : Nat} {cs : Array Value} {t : TypeId} {fr : Nat × Nat}, w.heap[k]? = some (.cells cs t fr) → ¬ k = lb := fun hk e => by
    obtain ⟨es, cl, hb, _⟩ := h.live; rw [e, hb] at hk; cases hk
  refine ⟨hk.heap h.head (ne_cells h.head), owns_kept h.trow hk (fun k hk => ?_), live_map.2 hm, h.gone.kept hk h.apart, h.apart⟩
  obtain ⟨cur, hcur⟩ := owns_type h.trow hk
  exact ne_cells hcur
theorem SetAt.putGone {w w' : World} {s : Nat} {c : Cf} {tv : Value} {lb gb : Nat} {Gl Gl' : List (Sg × Unit)} {L : LV} (h : SetAt w s c tv lb gb Gl L) (hm : MapAt goneM w' gb Gl') (hk : Kept (fun k => k = gb) w w') : SetAt w' s c tv lb gb Gl' L := by
  have ne_cells : ∀ {k : Nat} {cs : Array Value} {t : TypeId} {fr : Nat × Nat}, w.heap[k]? = some (.cells cs t fr) → ¬ k = gb := fun hk e => by
    obtain ⟨es, cl, hb, _⟩ := h.gone; rw [e, hb] at hk; cases hk
  refine ⟨hk.heap h.head (ne_cells h.head), owns_kept h.trow hk (fun k hk => ?_), h.live.kept hk (fun e => h.apart e.symm), hm, h.apart⟩
  obtain ⟨cur, hcur⟩ := owns_type h.trow hk
  exact ne_cells hcur
set_option maxRecDepth 8000 in
set_option maxHeartbeats 4000000 in
theorem reclaim_any {w : World} {s : Nat} {c : Cf} {tv : Value} {lb gb : Nat} {Gl : List (Sg × Unit)} {L : LV} (h : SetAt w s c tv lb gb Gl L) (k : Sg) (hk : k.wf) (hlen : Gl.length ≤ 1000000000) :
    Calls Tryz.prog 93 #[.pointer (some ⟨s, 0, none⟩), .agg #[.int .i64 k.t, .int .i64 k.ser, .int .i64 k.win]] w fun e w' => e = .returned (.tuple #[]) ∧ SetAt w' s c tv lb gb (putM Gl k ()) (delM L k) ∧ Kept (fun k => k = lb ∨ k = gb) w w' := by
  have hsl := h.lt
  obtain ⟨-, -, -, -, -, -, -, c7, c8⟩ := h.cells
  have hba : Below w.heap.size w (w.alloc (.cells #[.int .i64 k.t, .int .i64 k.ser, .int .i64 k.win] 137)) := (Below.refl _ _).alloc (Nat.le_refl _) _
  have q0 := rlast w (.cells #[.int .i64 k.t, .int .i64 k.ser, .int .i64 k.win] 137)
  have hX := h.later hba
  have hlb := hX.live.lt
  have hgb := hX.gone.lt
  have hfl := h.foot_lt
  have x7 := (hba.cell (p := ⟨s, 7, none⟩) hsl).trans c7
  have x8 := (hba.cell (p := ⟨s, 8, none⟩) hsl).trans c8
  have hsz : s < (w.alloc (.cells #[.int .i64 k.t, .int .i64 k.ser, .int .i64 k.win] 137)).heap.size := hX.lt
  have HBA := hide hba
  obtain ⟨X, hXe⟩ : ∃ X, (w.alloc (.cells #[.int .i64 k.t, .int .i64 k.ser, .int .i64 k.win] 137)) = X := ⟨_, rfl⟩
  have HXE := hide hXe
  rw [hXe] at q0 hX hlb hgb x7 x8 hsz HBA
  have hXd : Below X.heap.size X X.drew := (Below.refl _ _).drew
  obtain ⟨o, hrun, hm1, hk1⟩ := del_live (X := X.drew) (live_map.1 (hX.later hXd).live) hk 0
  obtain ⟨Y, hYe⟩ : ∃ Y, setBlock X.drew lb o = Y := ⟨_, rfl⟩
  rw [hYe] at hrun hm1 hk1
  have hY := (hX.later hXd).putLive hm1 hk1
  have hYd : Below Y.heap.size Y Y.drew := (Below.refl _ _).drew
  obtain ⟨o2, hrun2, hm2, hk2, _⟩ := mapUp (X := Y.drew) (hY.later hYd).gone (by simp only [maxLen]; omega) hk
  obtain ⟨Z, hZe⟩ : ∃ Z, setBlock Y.drew gb o2 = Z := ⟨_, rfl⟩
  rw [hZe] at hrun2 hm2 hk2
  have hZ := (hY.later hYd).putGone hm2 hk2
  have hs1 : s ≠ lb := fun e => by obtain ⟨es, cl, hb, _⟩ := hX.live; have := hX.head; rw [e, hb] at this; cases this
  have hq1 : w.heap.size ≠ lb := fun e => by have := hfl lb (.inr (.inr (.inl rfl))); omega
  have qz := lt_of_heap q0
  have kx0 : X.cell? ⟨w.heap.size, 0, none⟩ = some (.int .i64 k.t) := by rw [rcell q0]; rfl
  have kx1 : X.cell? ⟨w.heap.size, 1, none⟩ = some (.int .i64 k.ser) := by rw [rcell q0]; rfl
  have kx2 : X.cell? ⟨w.heap.size, 2, none⟩ = some (.int .i64 k.win) := by rw [rcell q0]; rfl
  have ky0 : Y.cell? ⟨w.heap.size, 0, none⟩ = some (.int .i64 k.t) := (kept_cell (i := 0) hk1 hq1 qz).trans kx0
  have ky1 : Y.cell? ⟨w.heap.size, 1, none⟩ = some (.int .i64 k.ser) := (kept_cell (i := 1) hk1 hq1 qz).trans kx1
  have ky2 : Y.cell? ⟨w.heap.size, 2, none⟩ = some (.int .i64 k.win) := (kept_cell (i := 2) hk1 hq1 qz).trans kx2
  have y8 : Y.cell? ⟨s, 8, none⟩ = some (.map (some gb)) := (kept_cell (i := 8) hk1 hs1 hsz).trans x8
  have HEND : Hid (SetAt Z s c tv lb gb (putM Gl k ()) (delM L k) ∧ Kept (fun k => k = lb ∨ k = gb) w Z) :=
    ⟨hZ, ((((Kept.of_below (f := fun k => k = lb ∨ k = gb) (ud HBA)).drew).trans (hk1.mono (fun k _ e => .inl e)) (fun _ _ e => e)).drew).trans (hk2.mono (fun k _ e => .inr e)) (fun _ _ e => e)⟩
  have hsY : s < Y.heap.size := Nat.lt_of_lt_of_le hsz hk1.size
  have hqY : w.heap.size < Y.heap.size := Nat.lt_of_lt_of_le qz hk1.size
  have HYE := hide hYe
  have HZE := hide hZe
  clear h hX hY hZ hm1 hm2 hk1 hk2 hfl hba q0 hXe hYe hZe c7 c8 HBA hXd hYd
  go_enter Tryz.func93, Tryz.ntmps93
  go_wp2_with fail
  rw [ud HXE]
  go_region
  go_wp2_with fail
  go_region
  go_wp2_with fail
  go_end0
  exact ⟨rfl, ud HEND⟩
set_option maxRecDepth 8000 in
set_option maxHeartbeats 4000000 in
theorem publish_any {w : World} {s : Nat} {c : Cf} {tv : Value} {lb gb : Nat} {Gl : List (Sg × Unit)} {L : LV} (h : SetAt w s c tv lb gb Gl L) (hc : c.ok) (k : Nat) (hk : k < c.n) (ser win : Int) (hser : i64B ser) (hwn : 0 ≤ win ∧ win ≤ 100000) (hlen : L.length ≤ 1000000) :
    Calls Tryz.prog 92 #[.pointer (some ⟨s, 0, none⟩), .agg #[.int .i64 k, .int .i64 ser, .int .i64 win]] w fun e w' => e = .returned (.tuple #[]) ∧ SetAt w' s c tv lb gb Gl (putL L ⟨k, ser, win⟩ ⟨3, joinL (standL c L ser win k)⟩) ∧ Kept (fun k => k = lb) w w' := by
  have hsl := h.lt
  obtain ⟨-, -, -, -, -, -, -, c7, -⟩ := h.cells
  have hn4 := hc.n4
  have hkw : (⟨(k : Int), ser, win⟩ : Sg).wf := ⟨by unfold i64B; dsimp only; omega, hser, by unfold i64B; dsimp only; omega⟩
  have hba : Below w.heap.size w (w.alloc (.cells #[.int .i64 k, .int .i64 ser, .int .i64 win] 137)) := (Below.refl _ _).alloc (Nat.le_refl _) _
  have q0 := rlast w (.cells #[.int .i64 k, .int .i64 ser, .int .i64 win] 137)
  have hX := h.later hba
  have hfl := h.foot_lt
  have HST := fun W hW => hide (stands_any (h.later (w' := W) hW) hc k hk ser win hser hwn)
  have hzl : (standL c L ser win k).length ≤ 1000 := by have := standT_len L (c.F k) ser (win * manyOf c k) (manyOf c k).toNat; have := many_bounds hc hk; show (standT L (c.F k) ser (win * manyOf c k) (manyOf c k).toNat).length ≤ 1000; omega
  have HJ := fun ad b cap ha W hb hcc => hide (join_any ad b cap (standL c L ser win k) ha hzl W hb hcc)
  have x7 := (hba.cell (p := ⟨s, 7, none⟩) hsl).trans c7
  have kx0 : (w.alloc (.cells #[.int .i64 k, .int .i64 ser, .int .i64 win] 137)).cell? ⟨w.heap.size, 0, none⟩ = some (.int .i64 k) := by rw [rcell q0]; rfl
  have kx1 : (w.alloc (.cells #[.int .i64 k, .int .i64 ser, .int .i64 win] 137)).cell? ⟨w.heap.size, 1, none⟩ = some (.int .i64 ser) := by rw [rcell q0]; rfl
  have kx2 : (w.alloc (.cells #[.int .i64 k, .int .i64 ser, .int .i64 win] 137)).cell? ⟨w.heap.size, 2, none⟩ = some (.int .i64 win) := by rw [rcell q0]; rfl
  generalize standL c L ser win k = zs at *
  obtain ⟨jc, hjc⟩ : ∃ jc, joinL zs = jc := ⟨_, rfl⟩
  unfold clV at HJ
  rw [hjc] at HJ ⊢
  have hne1 : ¬ s = lb := fun e => by
    obtain ⟨es, cl, hb, _⟩ := h.live
    have hh := h.head
    rw [e, hb] at hh; cases hh
  have hne0 : ¬ w.heap.size = lb := fun e => by have := hfl lb (.inr (.inr (.inl rfl))); omega
  have HBA := hide hba
  have HX := hide hX
  have HKW := hide hkw
  have qz := lt_of_heap q0
  have hsz := hX.lt
  have hroom2 : L.length < maxLen := by simp only [maxLen]; omega
  have p0 := kx0
  have p1 := kx1
  have p2 := kx2
  have p3 := x7
  clear h hba q0 hX hkw hfl kx0 kx1 kx2 x7 c7
  go_enter Tryz.func92, Tryz.ntmps92
  go_wp2_with fail
  generalize (w.alloc (.cells #[.int .i64 k, .int .i64 ser, .int .i64 win] 137)) = X at *
  have HST0 := HST X (ud HBA)
  have HST1 := HST X.drew (ud HBA).drew
  clear HST
  go_region_held3 (fun w' => w'.cell? ⟨w.heap.size, 0, none⟩ = some (.int .i64 k) ∧ w'.cell? ⟨w.heap.size, 1, none⟩ = some (.int .i64 ser) ∧ w'.cell? ⟨w.heap.size, 2, none⟩ = some (.int .i64 win) ∧ w'.cell? ⟨s, 7, none⟩ = some (.map (some lb))) (go_keep) (first
    | (go_at_call 142; (first | refine (ud HST0).mono ?_ | refine (ud HST1).mono ?_); rintro e V ⟨ad, g, cap, rfl, ha, hg, hcat, hbV0⟩; have hbV : Below X.heap.size X V := ⟨hbV0.os, hbV0.tape, hbV0.output, hbV0.size, hbV0.block⟩; clear hbV0; have v0 : V.cell? ⟨w.heap.size, 0, none⟩ = some (.int .i64 k) := (hbV.cell (p := ⟨w.heap.size, 0, none⟩) qz).trans p0; have v1 : V.cell? ⟨w.heap.size, 1, none⟩ = some (.int .i64 ser) := (hbV.cell (p := ⟨w.heap.size, 1, none⟩) qz).trans p1; have v2 : V.cell? ⟨w.heap.size, 2, none⟩ = some (.int .i64 win) := (hbV.cell (p := ⟨w.heap.size, 2, none⟩) qz).trans p2; have v3 : V.cell? ⟨s, 7, none⟩ = some (.map (some lb)) := (hbV.cell (p := ⟨s, 7, none⟩) hsz).trans p3; have qzV := Nat.lt_of_lt_of_le qz hbV.size; have hszV := Nat.lt_of_lt_of_le hsz hbV.size; have HJ0 := HJ ad g cap ha V hg hcat; have HJ1 := HJ ad g cap ha V.drew hg hcat; have HBV := hide hbV; clear hbV ha hg hcat HJ)
    | (go_at_call 141; (first | refine (ud HJ0).mono ?_ | refine (ud HJ1).mono ?_); rintro e J ⟨rfl, hbJ0⟩; have hbJ : Below V.heap.size V J := ⟨hbJ0.os, hbJ0.tape, hbJ0.output, hbJ0.size, hbJ0.block⟩; clear hbJ0; have j0 : J.cell? ⟨w.heap.size, 0, none⟩ = some (.int .i64 k) := (hbJ.cell (p := ⟨w.heap.size, 0, none⟩) qzV).trans v0; have j1 : J.cell? ⟨w.heap.size, 1, none⟩ = some (.int .i64 ser) := (hbJ.cell (p := ⟨w.heap.size, 1, none⟩) qzV).trans v1; have j2 : J.cell? ⟨w.heap.size, 2, none⟩ = some (.int .i64 win) := (hbJ.cell (p := ⟨w.heap.size, 2, none⟩) qzV).trans v2; have j3 : J.cell? ⟨s, 7, none⟩ = some (.map (some lb)) := (hbJ.cell (p := ⟨s, 7, none⟩) hszV).trans v3; have qzJ := Nat.lt_of_lt_of_le qzV hbJ.size; have hszJ := Nat.lt_of_lt_of_le hszV hbJ.size; have hXJ := (ud HBV).trans (hbJ.mono (ud HBV).size); obtain ⟨o, hrun, hset, hkp, hoc⟩ := run_store2 ((ud HX).later hXJ) hroom2 (ud HKW) ⟨3, jc⟩; dsimp only at hrun; obtain ⟨U, hU⟩ : ∃ U, setBlock J lb o = U := ⟨_, rfl⟩; rw [hU] at hrun hset hkp; have u0 : U.cell? ⟨w.heap.size, 0, none⟩ = some (.int .i64 k) := (kept_cell (i := 0) hkp hne0 qzJ).trans j0; have u1 : U.cell? ⟨w.heap.size, 1, none⟩ = some (.int .i64 ser) := (kept_cell (i := 1) hkp hne0 qzJ).trans j1; have u2 : U.cell? ⟨w.heap.size, 2, none⟩ = some (.int .i64 win) := (kept_cell (i := 2) hkp hne0 qzJ).trans j2; have u3 : U.cell? ⟨s, 7, none⟩ = some (.map (some lb)) := (kept_cell (i := 7) hkp hne1 hszJ).trans j3; have HSET := hide hset; have HKU := hide ((Kept.of_below (f := fun k => k = lb) ((ud HBA).trans (hXJ.mono (ud HBA).size))).trans hkp (fun _ _ h => h)); clear hset hkp hbJ hU hoc hXJ))
  all_goals go_wp2_with fail
  all_goals go_end0
  all_goals exact ⟨rfl, ud HSET, ud HKU⟩
end Go.Proofs.YtpbimdkclnekeaaGreat

namespace Go.Proofs.YtpbimdkclnekeaaGreat
open Go.RowKit Go.Maps Go.Shelf
open Go.ChangeMaps (setBlock)
set_option linter.unusedVariables false
def restN (k : Nat) : Nat := 2 ^ min k 5
theorem restN_bound (k : Nat) : 1 ≤ restN k ∧ restN k ≤ 32 := by
  unfold restN
  have h : min k 5 ≤ 5 := Nat.min_le_right _ _
  generalize min k 5 = j at *
  match j, h with
  | 0, _ => simp
  | 1, _ => simp
  | 2, _ => simp
  | 3, _ => simp
  | 4, _ => simp
  | 5, _ => simp
theorem pow_lt {k : Nat} (h : k ≤ 5) : ((2 : Int) ^ k < 32 ↔ k < 5) := by
  match k, h with
  | 0, _ => simp
  | 1, _ => simp
  | 2, _ => simp
  | 3, _ => simp
  | 4, _ => simp
  | 5, _ => simp
theorem pow_bd {k : Nat} (h : k ≤ 5) : 1 ≤ (2 : Int) ^ k ∧ (2 : Int) ^ k ≤ 32 := by
  match k, h with
  | 0, _ => simp
  | 1, _ => simp
  | 2, _ => simp
  | 3, _ => simp
  | 4, _ => simp
  | 5, _ => simp
set_option maxHeartbeats 1000000 in
theorem rest_any (tries : Nat) (ht : tries ≤ 1000000000000) (w : World) :
    Calls Tryz.prog 97 #[.int .i64 tries] w fun e w' => e = .returned (.int .i64 (restN tries)) ∧ w' = w := by
  go_enter Tryz.func97, Tryz.ntmps97
  go_wp2_with fail
  go_loopw [3, 4] (fun x y wr => ∃ (k : Nat), k ≤ 5 ∧ k ≤ tries ∧ x = .int .i64 ((2 : Int) ^ k) ∧ y = .int .i64 k ∧ wr = w) (fun _ y _ => 5 - (intOf y).toNat)
  case atStart => exact ⟨0, by omega, Nat.zero_le _, by simp, rfl, rfl⟩
  case round =>
    obtain ⟨k, hk5, hkt, rfl, rfl, rfl⟩ := hrel
    obtain ⟨p1, p2⟩ := pow_bd hk5
    by_cases h1 : k < tries
    · have h1' : (k : Int) < tries := by omega
      by_cases h2 : k < 5
      · have h2' : (2 : Int) ^ k < 32 := (pow_lt hk5).2 h2
        have HP : Hid ((2 : Int) ^ k * 2 = 2 ^ (k + 1)) := by show (2 : Int) ^ k * 2 = 2 ^ (k + 1); rw [Int.pow_succ]
        obtain ⟨v, hv⟩ : ∃ v, (2 : Int) ^ k = v := ⟨_, rfl⟩
        rw [hv] at HP h2' p1 p2 ⊢
        clear hv
        go_wp2_with fail
        go_roundw
        case rel => exact ⟨k + 1, by omega, by omega, by rw [← ud HP], by go_num, trivial⟩
        case measure => simp [intOf]; omega
      · obtain rfl : k = 5 := by omega
        go_wp2_with fail
        go_ret
        refine ⟨?_, rfl⟩
        unfold restN
        rw [show min tries 5 = 5 by omega]
        rfl
    · obtain rfl : k = tries := by omega
      go_wp2_with fail
      go_ret
      refine ⟨?_, rfl⟩
      unfold restN
      rw [show min k 5 = k by omega]
      simp
theorem fld_lse (x : Lse) (W : World) : (Instr.field 149 (.agg #[.int .i64 x.kd, .int .i64 x.s.t, .int .i64 x.s.ser, .int .i64 x.s.win, .int .i64 x.slot, .int .i64 x.til]) 0).run Tryz.prog W = .ok (.agg #[.int .i64 x.kd, .int .i64 x.s.t, .int .i64 x.s.ser, .int .i64 x.s.win]) W := by kernel_rfl
theorem look_lse {X : World} {qb : Nat} {QL : List (Tok × Lse)} (h : MapAt leasesM X qb QL) {t : Tok} (ht : t.wf) {g : Lse} (hg : getM QL t = some g) : (Instr.lookup 153 (.map (some qb)) (.agg #[.int .i64 t.ep, .int .i64 t.num]) false).run Tryz.prog X = .ok (.agg #[.int .i64 g.kd, .int .i64 g.s.t, .int .i64 g.s.ser, .int .i64 g.s.win, .int .i64 g.slot, .int .i64 g.til]) X := by
  have h1 := run_lookM leases_ok false h ht
  rw [hg] at h1; exact h1
theorem look_tsk {X : World} {tb : Nat} {TL : List (Jk × Tsk)} (h : MapAt tasksM X tb TL) {k : Jk} (hk : k.wf) {x : Tsk} (hx : getM TL k = some x) : (Instr.lookup 154 (.map (some tb)) (.agg #[.int .i64 k.kd, .int .i64 k.s.t, .int .i64 k.s.ser, .int .i64 k.s.win]) false).run Tryz.prog X = .ok (.agg #[.iface x.jt (.agg #[.int .i64 x.s.t, .int .i64 x.s.ser, .int .i64 x.s.win]), .int .i64 x.since, .int .i64 x.tries, .int .i64 x.rest]) X := by
  have h1 := run_lookM tasks_ok false h hk
  rw [hx] at h1; exact h1
def Tsk.failed (x : Tsk) (now : Int) : Tsk := ⟨x.rl, x.s, x.since, x.tries + 1, now + restN (x.tries + 1).toNat⟩
theorem store_tsk {X : World} {tb : Nat} {TL : List (Jk × Tsk)} (h : MapAt tasksM X tb TL) (hr : TL.length < maxLen) {k : Jk} (hk : k.wf) (x : Tsk) (tr re : Int) :
    ∃ o, (Instr.mapUpdate 154 (.map (some tb)) (.agg #[.int .i64 k.kd, .int .i64 k.s.t, .int .i64 k.s.ser, .int .i64 k.s.win]) (.agg #[.iface x.jt (.agg #[.int .i64 x.s.t, .int .i64 x.s.ser, .int .i64 x.s.win]), .int .i64 x.since, .int .i64 tr, .int .i64 re])).run Tryz.prog X = .ok () (setBlock X tb o) ∧ MapAt tasksM (setBlock X tb o) tb (putM TL k ⟨x.rl, x.s, x.since, tr, re⟩) ∧ Kept (fun k => k = tb) X (setBlock X tb o) ∧ o.isCells = false :=
  run_storeM tasks_ok h hr hk (⟨x.rl, x.s, x.since, tr, re⟩ : Tsk)
theorem del_lse {X : World} {qb : Nat} {QL : List (Tok × Lse)} (h : MapAt leasesM X qb QL) {t : Tok} (ht : t.wf) (ty : TypeId) :
    ∃ o, (Builtin.delete_ #[153, 49] ty #[.map (some qb), .agg #[.int .i64 t.ep, .int .i64 t.num]]).run Tryz.prog X = .ok (.tuple #[]) (setBlock X qb o) ∧ MapAt leasesM (setBlock X qb o) qb (delM QL t) ∧ Kept (fun k => k = qb) X (setBlock X qb o) := by
  obtain ⟨es, cl, hb, he⟩ := h
  obtain ⟨es', h1, h2, h3⟩ := run_delM leases_ok hb he ht ty
  exact ⟨.map es' cl, h1, ⟨es', cl, setBlock_at (lt_of_heap hb) _, h2⟩, kept_block _⟩
theorem del_lse2 {X : World} {qb : Nat} {QL : List (Tok × Lse)} {es : Array MapEntry} {cl : Nat} (hb : X.heap[qb]? = some (.map es cl)) (he : MEnts leasesM es cl QL) {t : Tok} (ht : t.wf) (ty : TypeId) :
    ∃ es', (Builtin.delete_ #[153, 49] ty #[.map (some qb), .agg #[.int .i64 t.ep, .int .i64 t.num]]).run Tryz.prog X = .ok (.tuple #[]) (setBlock X qb (.map es' cl)) ∧ (setBlock X qb (.map es' cl)).heap[qb]? = some (.map es' cl) ∧ MEnts leasesM es' cl (delM QL t) ∧ (∀ e, e ∈ es'.toList ↔ e ∈ es.toList ∧ e.key ≠ tokVal t) ∧ Kept (fun k => k = qb) X (setBlock X qb (.map es' cl)) := by
  obtain ⟨es', h1, h2, h3⟩ := run_delM leases_ok hb he ht ty
  exact ⟨es', h1, setBlock_at (lt_of_heap hb) _, h2, h3, kept_block _⟩
set_option maxRecDepth 8000 in
set_option maxHeartbeats 4000000 in
theorem fail_any {w : World} {b : Nat} {c : Cf} {tv : Value} {ep num : Int} {tb qb : Nat} {TL : List (Jk × Tsk)} {QL : List (Tok × Lse)} (h : BoardAt w b c tv ep num tb qb TL QL) (t : Tok) (ht : t.wf) {g : Lse} (hg : getM QL t = some g) {x : Tsk} (hkw : (⟨g.kd, g.s⟩ : Jk).wf) (hx : getM TL ⟨g.kd, g.s⟩ = some x) (now : Int) (hnow : 0 ≤ now ∧ now ≤ 100000) (htr : 0 ≤ x.tries ∧ x.tries ≤ 1000000000) (hlen : TL.length ≤ 100000) {es : Array MapEntry} {cl : Nat} (hqe : w.heap[qb]? = some (.map es cl)) (hqm : MEnts leasesM es cl QL) :
    Calls Tryz.prog 45 #[.pointer (some ⟨b, 0, none⟩), .agg #[.int .i64 t.ep, .int .i64 t.num], .int .i64 now] w fun e w' => e = .returned (.tuple #[]) ∧ BoardAt w' b c tv ep num tb qb (putM TL ⟨g.kd, g.s⟩ (x.failed now)) (delM QL t) ∧ Kept (fun k => k = tb ∨ k = qb) w w' ∧ ∃ es', w'.heap[qb]? = some (.map es' cl) ∧ MEnts leasesM es' cl (delM QL t) ∧ ∀ e, e ∈ es'.toList ↔ e ∈ es.toList ∧ e.key ≠ tokVal t := by
  have hbl := h.lt
  have y0 := rlast w (.cells #[.int .i64 t.ep, .int .i64 t.num] 49)
  have yz := rsize w (.cells #[.int .i64 t.ep, .int .i64 t.num] 49)
  have hb0 : Below w.heap.size w (w.alloc (.cells #[.int .i64 t.ep, .int .i64 t.num] 49)) := (Below.refl _ _).alloc (Nat.le_refl _) _
  have k0 : (w.alloc (.cells #[.int .i64 t.ep, .int .i64 t.num] 49)).cell? ⟨w.heap.size, 0, none⟩ = some (.int .i64 t.ep) := by rw [rcell y0]; rfl
  have k1 : (w.alloc (.cells #[.int .i64 t.ep, .int .i64 t.num] 49)).cell? ⟨w.heap.size, 1, none⟩ = some (.int .i64 t.num) := by rw [rcell y0]; rfl
  have x10 := (h.later hb0).cell10
  have HL := fun X hX => look_lse (h.leases.later (w' := X) hX) ht hg
  have g0 := HL _ hb0
  have g1 := HL _ hb0.drew
  have g2 := fun o => HL _ (hb0.alloc hb0.size o)
  have g3 := fun o => HL _ (hb0.alloc hb0.size o).drew
  have g4 := fun o => HL _ (hb0.drew.alloc hb0.drew.size o)
  have fl := fld_lse g
  have hkz : w.heap.size < (w.alloc (.cells #[.int .i64 t.ep, .int .i64 t.num] 49)).heap.size := by rw [yz]; omega
  have hblX : b < (w.alloc (.cells #[.int .i64 t.ep, .int .i64 t.num] 49)).heap.size := by rw [yz]; omega
  have HH := hide h
  have Y0 := hide y0
  have HB0 := hide hb0
  have HT := hide ht
  have HKW := hide hkw
  have HG := hide hg
  have HX := hide hx
  have HQE := hide hqe
  have HQM := hide hqm
  clear h y0 yz hb0 HL ht hkw hg hx hqe hqm
  go_enter Tryz.func45, Tryz.ntmps45
  go_wp2_with fail
  generalize (w.alloc (.cells #[.int .i64 t.ep, .int .i64 t.num] 49)) = X at *
  go_region
  have hbY : Below X.heap.size X (X.alloc (.cells #[.int .i64 g.kd, .int .i64 g.s.t, .int .i64 g.s.ser, .int .i64 g.s.win] 147)).drew := ((Below.refl _ _).alloc (Nat.le_refl _) _).drew
  have hky : (X.alloc (.cells #[.int .i64 g.kd, .int .i64 g.s.t, .int .i64 g.s.ser, .int .i64 g.s.win] 147)).drew.heap[X.heap.size]? = some (.cells #[.int .i64 g.kd, .int .i64 g.s.t, .int .i64 g.s.ser, .int .i64 g.s.win] 147 (0, 0)) := rlast _ _
  have hyz : (X.alloc (.cells #[.int .i64 g.kd, .int .i64 g.s.t, .int .i64 g.s.ser, .int .i64 g.s.win] 147)).drew.heap.size = X.heap.size + 1 := rsize _ _
  generalize (X.alloc (.cells #[.int .i64 g.kd, .int .i64 g.s.t, .int .i64 g.s.ser, .int .i64 g.s.win] 147)).drew = Y at *
  have hwY : Below w.heap.size w Y := (ud HB0).trans (hbY.mono (ud HB0).size)
  have y9 := ((ud HH).later hwY).cell9
  have ky0 : Y.cell? ⟨X.heap.size, 0, none⟩ = some (.int .i64 g.kd) := by rw [rcell hky]; rfl
  have ky1 : Y.cell? ⟨X.heap.size, 1, none⟩ = some (.int .i64 g.s.t) := by rw [rcell hky]; rfl
  have ky2 : Y.cell? ⟨X.heap.size, 2, none⟩ = some (.int .i64 g.s.ser) := by rw [rcell hky]; rfl
  have ky3 : Y.cell? ⟨X.heap.size, 3, none⟩ = some (.int .i64 g.s.win) := by rw [rcell hky]; rfl
  have HLT := fun V hV => look_tsk (k := ⟨g.kd, g.s⟩) ((ud HH).tasks.later (w' := V) hV) (ud HKW) (ud HX)
  dsimp only at HLT
  clear g0 g1 g2 g3 g4 fl k0 k1 x10
  have g0 := HLT Y hwY
  have g1 := HLT Y.drew hwY.drew
  have g2 := fun o => HLT (Y.alloc o) (hwY.alloc hwY.size o)
  have g3 := fun o => HLT (Y.alloc o).drew (hwY.alloc hwY.size o).drew
  have g4 := fun o => HLT (Y.drew.alloc o) (hwY.drew.alloc hwY.drew.size o)
  have hbY2 : b < Y.heap.size := by omega
  have hkY2 : X.heap.size < Y.heap.size := by omega
  have HKYB := hide hky
  have HWY := hide hwY
  have HYZ := hide hyz
  have HYK := hide hbY
  clear hky hwY hyz hbY HLT
  go_wp2_with fail
  go_region
  have hbZ : Below Y.heap.size Y (Y.alloc (.cells #[.iface x.jt (.agg #[.int .i64 x.s.t, .int .i64 x.s.ser, .int .i64 x.s.win]), .int .i64 x.since, .int .i64 x.tries, .int .i64 x.rest] 162)).drew := ((Below.refl _ _).alloc (Nat.le_refl _) _).drew
  have htz : (Y.alloc (.cells #[.iface x.jt (.agg #[.int .i64 x.s.t, .int .i64 x.s.ser, .int .i64 x.s.win]), .int .i64 x.since, .int .i64 x.tries, .int .i64 x.rest] 162)).drew.heap[Y.heap.size]? = some (.cells #[.iface x.jt (.agg #[.int .i64 x.s.t, .int .i64 x.s.ser, .int .i64 x.s.win]), .int .i64 x.since, .int .i64 x.tries, .int .i64 x.rest] 162 (0, 0)) := rlast _ _
  have hzz : (Y.alloc (.cells #[.iface x.jt (.agg #[.int .i64 x.s.t, .int .i64 x.s.ser, .int .i64 x.s.win]), .int .i64 x.since, .int .i64 x.tries, .int .i64 x.rest] 162)).drew.heap.size = Y.heap.size + 1 := rsize _ _
  generalize (Y.alloc (.cells #[.iface x.jt (.agg #[.int .i64 x.s.t, .int .i64 x.s.ser, .int .i64 x.s.win]), .int .i64 x.since, .int .i64 x.tries, .int .i64 x.rest] 162)).drew = Z at *
  have hwZ : Below w.heap.size w Z := (ud HWY).trans (hbZ.mono (ud HWY).size)
  have t0 : Z.cell? ⟨Y.heap.size, 0, none⟩ = some (.iface x.jt (.agg #[.int .i64 x.s.t, .int .i64 x.s.ser, .int .i64 x.s.win])) := by rw [rcell htz]; rfl
  have t1 : Z.cell? ⟨Y.heap.size, 1, none⟩ = some (.int .i64 x.since) := by rw [rcell htz]; rfl
  have t2 : Z.cell? ⟨Y.heap.size, 2, none⟩ = some (.int .i64 x.tries) := by rw [rcell htz]; rfl
  have t3 : Z.cell? ⟨Y.heap.size, 3, none⟩ = some (.int .i64 x.rest) := by rw [rcell htz]; rfl
  have tf := fun j => rfree htz j
  have hZl := lt_of_heap htz
  have hkyz := (hbZ.block X.heap.size hkY2).trans (ud HKYB)
  have HR : ∀ W, Hid (Calls Tryz.prog 97 #[.int .i64 (x.tries + 1)] W fun e w' => e = .returned (.int .i64 (restN (x.tries + 1).toNat)) ∧ w' = W) := fun W => by
    have := rest_any (x.tries + 1).toNat (by omega) W
    rw [Int.toNat_of_nonneg (by omega)] at this
    exact this
  obtain ⟨q1, q2⟩ := restN_bound (x.tries + 1).toNat
  obtain ⟨rv, hrv⟩ : ∃ rv : Nat, restN (x.tries + 1).toNat = rv := ⟨_, rfl⟩
  rw [hrv] at q1 q2
  simp only [hrv] at HR
  have HRV := hide hrv
  have HTZ := hide htz
  have HWZ := hide hwZ
  have HKZ := hide hkyz
  have HBZ := hide hbZ
  clear g0 g1 g2 g3 g4 ky0 ky1 ky2 ky3 y9 htz hwZ hbZ hkyz hrv
  go_wp2_with (first | (go_at_call 97; refine (ud (HR _)).mono ?_; rintro e Z2 ⟨rfl, rfl⟩))
  have hU : ((Z.setCell ⟨Y.heap.size, 2, none⟩ (.int .i64 (x.tries + 1))).setCell ⟨Y.heap.size, 3, none⟩ (.int .i64 (now + rv))).heap[Y.heap.size]? = some (.cells #[.iface x.jt (.agg #[.int .i64 x.s.t, .int .i64 x.s.ser, .int .i64 x.s.win]), .int .i64 x.since, .int .i64 (x.tries + 1), .int .i64 (now + rv)] 162 (0, 0)) := rset (i := 3) (rset (i := 2) (ud HTZ) (.int .i64 (x.tries + 1))) (.int .i64 (now + rv))
  have hbU : Below Y.heap.size Z ((Z.setCell ⟨Y.heap.size, 2, none⟩ (.int .i64 (x.tries + 1))).setCell ⟨Y.heap.size, 3, none⟩ (.int .i64 (now + rv))) := ((Below.refl _ _).setCell (p := ⟨Y.heap.size, 2, none⟩) (Nat.le_refl _) _).setCell (p := ⟨Y.heap.size, 3, none⟩) (Nat.le_refl _) _
  generalize ((Z.setCell ⟨Y.heap.size, 2, none⟩ (.int .i64 (x.tries + 1))).setCell ⟨Y.heap.size, 3, none⟩ (.int .i64 (now + rv))) = U at *
  have hwU : Below w.heap.size w U := (ud HWZ).trans (hbU.mono (ud HWY).size)
  have hkU := (hbU.block X.heap.size hkY2).trans (ud HKZ)
  have hyU := (hbU.block w.heap.size (by have := hkz; omega)).trans (((ud HBZ).block w.heap.size (by have := hkz; omega)).trans (((ud HYK).block w.heap.size hkz).trans (ud Y0)))
  have u9 := ((ud HH).later hwU).cell9
  have ku0 : U.cell? ⟨X.heap.size, 0, none⟩ = some (.int .i64 g.kd) := by rw [rcell hkU]; rfl
  have ku1 : U.cell? ⟨X.heap.size, 1, none⟩ = some (.int .i64 g.s.t) := by rw [rcell hkU]; rfl
  have ku2 : U.cell? ⟨X.heap.size, 2, none⟩ = some (.int .i64 g.s.ser) := by rw [rcell hkU]; rfl
  have ku3 : U.cell? ⟨X.heap.size, 3, none⟩ = some (.int .i64 g.s.win) := by rw [rcell hkU]; rfl
  have tu0 : U.cell? ⟨Y.heap.size, 0, none⟩ = some (.iface x.jt (.agg #[.int .i64 x.s.t, .int .i64 x.s.ser, .int .i64 x.s.win])) := by rw [rcell hU]; rfl
  have tu1 : U.cell? ⟨Y.heap.size, 1, none⟩ = some (.int .i64 x.since) := by rw [rcell hU]; rfl
  have tu2 : U.cell? ⟨Y.heap.size, 2, none⟩ = some (.int .i64 (x.tries + 1)) := by rw [rcell hU]; rfl
  have tu3 : U.cell? ⟨Y.heap.size, 3, none⟩ = some (.int .i64 (now + rv)) := by rw [rcell hU]; rfl
  have hlU := lt_of_heap hU
  have hlK := lt_of_heap hkU
  have hlT := lt_of_heap hyU
  have hbU2 : b < U.heap.size := Nat.lt_of_lt_of_le hbl hwU.size
  obtain ⟨o, hrun, hm, hk, ho⟩ := store_tsk (X := U.drew) (k := ⟨g.kd, g.s⟩) ((ud HH).tasks.later hwU.drew) (by simp only [maxLen]; omega) (ud HKW) x (x.tries + 1) (now + rv)
  dsimp only at hrun
  have hput := ((ud HH).later hwU.drew).putTasks hm hk
  have hyM := hk.heap (k := w.heap.size) hyU (fun e => by have := (ud HH).foot_lt tb (.inr (.inl rfl)); omega)
  have m10 := hput.cell10
  have tm0 : (setBlock U.drew tb o).cell? ⟨w.heap.size, 0, none⟩ = some (.int .i64 t.ep) := by rw [rcell hyM]; rfl
  have tm1 : (setBlock U.drew tb o).cell? ⟨w.heap.size, 1, none⟩ = some (.int .i64 t.num) := by rw [rcell hyM]; rfl
  have hlM := lt_of_heap hyM
  have hbM := hput.lt
  have hqU : (setBlock U.drew tb o).heap[qb]? = some (.map es cl) := hk.heap (k := qb) ((hwU.block qb (lt_of_heap (ud HQE))).trans (ud HQE)) (fun e => (ud HH).apart e.symm)
  obtain ⟨es3, hdel3, hq3, hm3, hs3, hk3⟩ := del_lse2 (X := (setBlock U.drew tb o).drew) hqU (ud HQM) (ud HT) 0
  have HP := hide hput
  have HK := hide hk
  have HQ3 := hide hq3
  have HS3 := hide hs3
  have HM3 := hide hm3
  have HK3 := hide hk3
  have HWU := hide hwU
  clear t0 t1 t2 t3 tf hU hbU hkU hyU hwU hm hk hput hyM hm3 hk3 hq3 hs3 hqU
  go_region
  go_wp2_with fail
  generalize setBlock U.drew tb o = M at *
  clear hrun u9 ku0 ku1 ku2 ku3 tu0 tu1 tu2 tu3
  go_region
  go_wp2_with fail
  go_end0
  have hP := ud HP
  have hk3 := ud HK3
  have hkM : Kept (fun k => k = tb ∨ k = qb) w M := (Kept.of_below (f := fun k => k = tb ∨ k = qb) (ud HWU).drew).trans (ud HK) (fun _ _ e => .inl e)
  refine ⟨rfl, ⟨hk3.heap hP.head (fun e => hP.qb_ne e.symm), ?_, ⟨es3, cl, ud HQ3, ud HM3⟩, hP.apart⟩, ?_, es3, ud HQ3, ud HM3, ud HS3⟩
  · have := (hP.tasks.later (w' := M.drew) (Below.refl _ _).drew).kept hk3 (fun e => hP.apart e)
    unfold Tsk.failed
    rw [ud HRV]
    exact this
  · exact (hkM.drew).trans hk3 (fun _ _ e => .inr e)
end Go.Proofs.YtpbimdkclnekeaaGreat

namespace Go.Proofs.YtpbimdkclnekeaaGreat
open Go.RowKit Go.Maps Go.Shelf
open Go.ChangeMaps (setBlock)
set_option linter.unusedVariables false
theorem del_tsk {X : World} {tb : Nat} {TL : List (Jk × Tsk)} (h : MapAt tasksM X tb TL) {k : Jk} (hk : k.wf) (ty : TypeId) :
    ∃ o, (Builtin.delete_ #[154, 147] ty #[.map (some tb), .agg #[.int .i64 k.kd, .int .i64 k.s.t, .int .i64 k.s.ser, .int .i64 k.s.win]]).run Tryz.prog X = .ok (.tuple #[]) (setBlock X tb o) ∧ MapAt tasksM (setBlock X tb o) tb (delM TL k) ∧ Kept (fun k => k = tb) X (setBlock X tb o) := by
  obtain ⟨es, cl, hb, he⟩ := h
  obtain ⟨es', h1, h2, h3⟩ := run_delM tasks_ok hb he hk ty
  exact ⟨.map es' cl, h1, ⟨es', cl, setBlock_at (lt_of_heap hb) _, h2⟩, kept_block _⟩
set_option maxRecDepth 8000 in
set_option maxHeartbeats 4000000 in
theorem done_any {w : World} {b : Nat} {c : Cf} {tv : Value} {ep num : Int} {tb qb : Nat} {TL : List (Jk × Tsk)} {QL : List (Tok × Lse)} (h : BoardAt w b c tv ep num tb qb TL QL) (t : Tok) (ht : t.wf) {g : Lse} (hg : getM QL t = some g) (hkw : (⟨g.kd, g.s⟩ : Jk).wf) :
    Calls Tryz.prog 43 #[.pointer (some ⟨b, 0, none⟩), .agg #[.int .i64 t.ep, .int .i64 t.num]] w fun e w' => e = .returned (.tuple #[]) ∧ BoardAt w' b c tv ep num tb qb (delM TL ⟨g.kd, g.s⟩) (delM QL t) ∧ Kept (fun k => k = tb ∨ k = qb) w w' := by
  have hbl := h.lt
  have y0 := rlast w (.cells #[.int .i64 t.ep, .int .i64 t.num] 49)
  have yz := rsize w (.cells #[.int .i64 t.ep, .int .i64 t.num] 49)
  have hb0 : Below w.heap.size w (w.alloc (.cells #[.int .i64 t.ep, .int .i64 t.num] 49)) := (Below.refl _ _).alloc (Nat.le_refl _) _
  have k0 : (w.alloc (.cells #[.int .i64 t.ep, .int .i64 t.num] 49)).cell? ⟨w.heap.size, 0, none⟩ = some (.int .i64 t.ep) := by rw [rcell y0]; rfl
  have k1 : (w.alloc (.cells #[.int .i64 t.ep, .int .i64 t.num] 49)).cell? ⟨w.heap.size, 1, none⟩ = some (.int .i64 t.num) := by rw [rcell y0]; rfl
  have x9 := (h.later hb0).cell9
  have x10 := (h.later hb0).cell10
  have g0 := look_lse ((h.later hb0).leases) ht hg
  have g1 := look_lse ((h.later hb0.drew).leases) ht hg
  have fl := fld_lse g
  have hkz : w.heap.size < (w.alloc (.cells #[.int .i64 t.ep, .int .i64 t.num] 49)).heap.size := by rw [yz]; omega
  have hblX : b < (w.alloc (.cells #[.int .i64 t.ep, .int .i64 t.num] 49)).heap.size := by rw [yz]; omega
  obtain ⟨o, hdel, hm, hk⟩ := del_tsk (X := (w.alloc (.cells #[.int .i64 t.ep, .int .i64 t.num] 49)).drew) (k := ⟨g.kd, g.s⟩) ((h.later hb0.drew).tasks) hkw 0
  dsimp only at hdel
  have hput := (h.later hb0.drew).putTasks hm hk
  have hyM := hk.heap (k := w.heap.size) (show (w.alloc (.cells #[.int .i64 t.ep, .int .i64 t.num] 49)).drew.heap[w.heap.size]? = _ from y0) (fun e => by have := h.foot_lt tb (.inr (.inl rfl)); omega)
  have HH := hide h
  have HB0 := hide hb0
  have HT := hide ht
  have HP := hide hput
  have HK := hide hk
  have HYM := hide hyM
  clear h y0 yz hb0 hkw hg ht hm hput hk hyM
  go_enter Tryz.func43, Tryz.ntmps43
  go_wp2_with fail
  generalize (w.alloc (.cells #[.int .i64 t.ep, .int .i64 t.num] 49)) = X at *
  go_region
  go_wp2_with fail
  generalize setBlock X.drew tb o = M at *
  have m10 := (ud HP).cell10
  have tm0 : M.cell? ⟨w.heap.size, 0, none⟩ = some (.int .i64 t.ep) := by rw [rcell (ud HYM)]; rfl
  have tm1 : M.cell? ⟨w.heap.size, 1, none⟩ = some (.int .i64 t.num) := by rw [rcell (ud HYM)]; rfl
  have hlM := lt_of_heap (ud HYM)
  have hbM := (ud HP).lt
  obtain ⟨o3, hdel3, hm3, hk3⟩ := del_lse (X := M.drew) (ud HP).leases (ud HT) 0
  have HM3 := hide hm3
  have HK3 := hide hk3
  clear g0 g1 fl k0 k1 x9 x10 hdel hm3 hk3
  go_region
  go_wp2_with fail
  go_end0
  have hP := ud HP
  have hk3 := ud HK3
  have hkM : Kept (fun k => k = tb ∨ k = qb) w M := (Kept.of_below (f := fun k => k = tb ∨ k = qb) (ud HB0).drew).trans (ud HK) (fun _ _ e => .inl e)
  refine ⟨rfl, ⟨hk3.heap hP.head (fun e => hP.qb_ne e.symm), (hP.tasks.later (w' := M.drew) (Below.refl _ _).drew).kept hk3 (fun e => hP.apart e), ud HM3, hP.apart⟩, (hkM.drew).trans hk3 (fun _ _ e => .inr e)⟩
def jobV (o : Option Tsk) : Value := match o with
  | none => .nilIface
  | some x => .iface x.jt (.agg #[.int .i64 x.s.t, .int .i64 x.s.ser, .int .i64 x.s.win])
theorem fld_tsk (o : Option Tsk) (W : World) : (Instr.field 162 (lookT o) 0).run Tryz.prog W = .ok (jobV o) W := by
  cases o with
  | none => kernel_rfl
  | some x => kernel_rfl
end Go.Proofs.YtpbimdkclnekeaaGreat

namespace Go.Proofs.YtpbimdkclnekeaaGreat
open Go.RowKit Go.Maps Go.Shelf
set_option linter.unusedVariables false
def lseOr (o : Option Lse) : Lse := o.getD ⟨0, ⟨0, 0, 0⟩, 0, 0⟩
theorem look_lse2 {X : World} {qb : Nat} {QL : List (Tok × Lse)} (h : MapAt leasesM X qb QL) {t : Tok} (ht : t.wf) : (Instr.lookup 153 (.map (some qb)) (.agg #[.int .i64 t.ep, .int .i64 t.num]) true).run Tryz.prog X = .ok (.tuple #[.agg #[.int .i64 (lseOr (getM QL t)).kd, .int .i64 (lseOr (getM QL t)).s.t, .int .i64 (lseOr (getM QL t)).s.ser, .int .i64 (lseOr (getM QL t)).s.win, .int .i64 (lseOr (getM QL t)).slot, .int .i64 (lseOr (getM QL t)).til], .bool (getM QL t).isSome]) X := by
  have h1 := run_lookM leases_ok true h ht
  cases hg : getM QL t with
  | none => rw [hg] at h1; exact h1
  | some g => rw [hg] at h1; exact h1
theorem look_tskT {X : World} {tb : Nat} {TL : List (Jk × Tsk)} (h : MapAt tasksM X tb TL) {k : Jk} (hk : k.wf) : (Instr.lookup 154 (.map (some tb)) (.agg #[.int .i64 k.kd, .int .i64 k.s.t, .int .i64 k.s.ser, .int .i64 k.s.win]) false).run Tryz.prog X = .ok (lookT (getM TL k)) X := by
  have h1 := run_lookM tasks_ok false h hk
  cases hg : getM TL k with
  | none => rw [hg] at h1; exact h1
  | some g => rw [hg] at h1; exact h1
set_option maxRecDepth 8000 in
set_option maxHeartbeats 4000000 in
theorem leasedT_any {w : World} {b : Nat} {c : Cf} {tv : Value} {ep num : Int} {tb qb : Nat} {TL : List (Jk × Tsk)} {QL : List (Tok × Lse)} (h : BoardAt w b c tv ep num tb qb TL QL) (t : Tok) (ht : t.wf) (hkw : (⟨(lseOr (getM QL t)).kd, (lseOr (getM QL t)).s⟩ : Jk).wf) :
    Calls Tryz.prog 41 #[.pointer (some ⟨b, 0, none⟩), .agg #[.int .i64 t.ep, .int .i64 t.num]] w fun e w' => e = .returned (.tuple #[jobV (getM TL ⟨(lseOr (getM QL t)).kd, (lseOr (getM QL t)).s⟩), .bool (getM QL t).isSome]) ∧ Below w.heap.size w w' := by
  have hbl := h.lt
  have y0 := rlast w (.cells #[.int .i64 t.ep, .int .i64 t.num] 49)
  have yz := rsize w (.cells #[.int .i64 t.ep, .int .i64 t.num] 49)
  have hb0 : Below w.heap.size w (w.alloc (.cells #[.int .i64 t.ep, .int .i64 t.num] 49)) := (Below.refl _ _).alloc (Nat.le_refl _) _
  have k0 : (w.alloc (.cells #[.int .i64 t.ep, .int .i64 t.num] 49)).cell? ⟨w.heap.size, 0, none⟩ = some (.int .i64 t.ep) := by rw [rcell y0]; rfl
  have k1 : (w.alloc (.cells #[.int .i64 t.ep, .int .i64 t.num] 49)).cell? ⟨w.heap.size, 1, none⟩ = some (.int .i64 t.num) := by rw [rcell y0]; rfl
  have x10 := (h.later hb0).cell10
  have HL := fun X hX => look_lse2 (h.leases.later (w' := X) hX) ht
  have HTT := fun X hX => look_tskT (h.tasks.later (w' := X) hX) hkw
  dsimp only at HTT
  obtain ⟨g, hg⟩ : ∃ g, lseOr (getM QL t) = g := ⟨_, rfl⟩
  obtain ⟨ok, hok⟩ : ∃ ok, (getM QL t).isSome = ok := ⟨_, rfl⟩
  rw [hg] at HTT ⊢
  rw [hok]
  rw [hg, hok] at HL
  obtain ⟨tt, htt⟩ : ∃ tt, getM TL ⟨g.kd, g.s⟩ = tt := ⟨_, rfl⟩
  rw [htt] at HTT ⊢
  have g0 := HL _ hb0
  have g1 := HL _ hb0.drew
  have g2 := fun o => HL _ (hb0.alloc hb0.size o)
  have g3 := fun o => HL _ (hb0.alloc hb0.size o).drew
  have g4 := fun o => HL _ (hb0.drew.alloc hb0.drew.size o)
  have hkz : w.heap.size < (w.alloc (.cells #[.int .i64 t.ep, .int .i64 t.num] 49)).heap.size := by rw [yz]; omega
  have hblX : b < (w.alloc (.cells #[.int .i64 t.ep, .int .i64 t.num] 49)).heap.size := by rw [yz]; omega
  have HH := hide h
  have HB0 := hide hb0
  have HT2 := fun X hX => hide (HTT X hX)
  clear h y0 yz hb0 HL ht hkw hg hok htt HTT
  go_enter Tryz.func41, Tryz.ntmps41
  go_wp2_with fail
  generalize (w.alloc (.cells #[.int .i64 t.ep, .int .i64 t.num] 49)) = X at *
  go_region
  have hbY : Below X.heap.size X (X.alloc (.cells #[.int .i64 g.kd, .int .i64 g.s.t, .int .i64 g.s.ser, .int .i64 g.s.win, .int .i64 g.slot, .int .i64 g.til] 149)).drew := ((Below.refl _ _).alloc (Nat.le_refl _) _).drew
  have hky : (X.alloc (.cells #[.int .i64 g.kd, .int .i64 g.s.t, .int .i64 g.s.ser, .int .i64 g.s.win, .int .i64 g.slot, .int .i64 g.til] 149)).drew.heap[X.heap.size]? = some (.cells #[.int .i64 g.kd, .int .i64 g.s.t, .int .i64 g.s.ser, .int .i64 g.s.win, .int .i64 g.slot, .int .i64 g.til] 149 (0, 0)) := rlast _ _
  generalize (X.alloc (.cells #[.int .i64 g.kd, .int .i64 g.s.t, .int .i64 g.s.ser, .int .i64 g.s.win, .int .i64 g.slot, .int .i64 g.til] 149)).drew = Y at *
  have hwY : Below w.heap.size w Y := (ud HB0).trans (hbY.mono (ud HB0).size)
  have y9 := ((ud HH).later hwY).cell9
  have ky0 : Y.cell? ⟨X.heap.size, 0, none⟩ = some (.int .i64 g.kd) := by rw [rcell hky]; rfl
  have ky1 : Y.cell? ⟨X.heap.size, 1, none⟩ = some (.int .i64 g.s.t) := by rw [rcell hky]; rfl
  have ky2 : Y.cell? ⟨X.heap.size, 2, none⟩ = some (.int .i64 g.s.ser) := by rw [rcell hky]; rfl
  have ky3 : Y.cell? ⟨X.heap.size, 3, none⟩ = some (.int .i64 g.s.win) := by rw [rcell hky]; rfl
  have hly := lt_of_heap hky
  have hbYl : b < Y.heap.size := Nat.lt_of_lt_of_le hblX hbY.size
  clear g0 g1 g2 g3 g4 k0 k1 x10
  have g0 := ud (HT2 Y hwY)
  have g1 := ud (HT2 Y.drew hwY.drew)
  have fl := fld_tsk tt
  have HWY := hide hwY
  clear hky hwY hbY HT2
  go_wp2_with fail
  go_region
  go_wp2_with fail
  go_ret2
  exact ⟨rfl, (ud HWY).drew⟩
end Go.Proofs.YtpbimdkclnekeaaGreat

namespace Go.Proofs.YtpbimdkclnekeaaGreat
open Go.RowKit Go.Maps Go.Shelf
open Go.ChangeMaps (setBlock)
set_option linter.unusedVariables false
inductive Exps (now : Int) (TL : List (Jk × Tsk)) (QL : List (Tok × Lse)) : List (Jk × Tsk) → List (Tok × Lse) → Prop
  | nil : Exps now TL QL TL QL
  | step {T1 : List (Jk × Tsk)} {Q1 : List (Tok × Lse)} {t : Tok} {g : Lse} {x : Tsk} : Exps now TL QL T1 Q1 → getM Q1 t = some g → g.til ≤ now → getM T1 ⟨g.kd, g.s⟩ = some x → Exps now TL QL (putM T1 ⟨g.kd, g.s⟩ (x.failed now)) (delM Q1 t)
structure BInv (B : Int) (n : Nat) (TL : List (Jk × Tsk)) (QL : List (Tok × Lse)) : Prop where
  job : ∀ p, p ∈ QL → ∃ x, getM TL ⟨p.2.kd, p.2.s⟩ = some x
  tries : ∀ p, p ∈ TL → 0 ≤ p.2.tries ∧ p.2.tries + QL.length ≤ B
  wfk : ∀ p, p ∈ TL → p.1.wf
  len : TL.length ≤ n
  tn : (keysM TL).Nodup
  qn : (keysM QL).Nodup
theorem lt_delM {α β : Type} [DecidableEq α] {L : List (α × β)} {a : α} {v : β} (h : (a, v) ∈ L) : (delM L a).length < L.length := by
  unfold delM
  refine Nat.lt_of_le_of_ne (List.length_filter_le _ _) (fun e => ?_)
  have := List.length_filter_eq_length_iff.1 e (a, v) h
  simp at this
theorem BInv.step {B : Int} {n : Nat} {T1 : List (Jk × Tsk)} {Q1 : List (Tok × Lse)} (h : BInv B n T1 Q1) (now : Int) {t : Tok} {g : Lse} {x : Tsk} (hg : getM Q1 t = some g) (hx : getM T1 ⟨g.kd, g.s⟩ = some x) : BInv B n (putM T1 ⟨g.kd, g.s⟩ (x.failed now)) (delM Q1 t) := by
  have hgm := getM_mem hg
  have hxm := getM_mem hx
  have hl := lt_delM hgm
  refine ⟨fun p hp => ?_, fun p hp => ?_, fun p hp => ?_, ?_, nodup_putM h.tn, nodup_delM h.qn⟩
  · obtain ⟨y, hy⟩ := h.job p (mem_delM.1 hp).1
    rw [getM_put h.tn]
    split
    · exact ⟨_, rfl⟩
    · exact ⟨y, hy⟩
  · rcases mem_putM hp with rfl | ⟨hp, _⟩
    · obtain ⟨a, b⟩ := h.tries _ hxm
      dsimp only [Tsk.failed] at a b ⊢
      omega
    · obtain ⟨a, b⟩ := h.tries _ hp
      omega
  · rcases mem_putM hp with rfl | ⟨hp, _⟩
    · exact h.wfk (_, x) hxm
    · exact h.wfk _ hp
  · rw [length_putM, if_pos (show (⟨g.kd, g.s⟩ : Jk) ∈ keysM T1 from List.mem_map.2 ⟨(_, x), hxm, rfl⟩)]; exact h.len
theorem once_eq {es : Array MapEntry} (h : (es.toList.map (·.born)).Nodup) {a b : MapEntry} (ha : a ∈ es.toList) (hb : b ∈ es.toList) (e : a.born = b.born) : a = b := by
  obtain ⟨i, hi, ei⟩ := List.getElem_of_mem ha
  obtain ⟨j, hj, ej⟩ := List.getElem_of_mem hb
  have h' : es.toList.Pairwise (fun a b => a.born ≠ b.born) := List.pairwise_map.1 h
  rcases Nat.lt_trichotomy i j with hh | hh | hh
  · have := List.pairwise_iff_getElem.1 h' i j hi hj hh; rw [ei, ej] at this; exact absurd e this
  · subst hh; rw [ei] at ej; exact ej
  · have := List.pairwise_iff_getElem.1 h' j i hj hi hh; rw [ei, ej] at this; exact absurd e.symm this
theorem ents_of {es : Array MapEntry} {clock : Nat} {L : List (Tok × Lse)} (h : MEnts leasesM es clock L) {p : Tok × Lse} (hp : p ∈ L) : ∃ x ∈ es.toList, x.key = tokVal p.1 ∧ x.val = lseVal p.2 := by
  have h1 : (leasesM.ke p.1, leasesM.ve p.2) ∈ es.toList.map (fun e => (e.key, e.val)) := h.kv ▸ List.mem_map.2 ⟨p, hp, rfl⟩
  obtain ⟨x, hx, e⟩ := List.mem_map.1 h1
  injection e with e1 e2
  exact ⟨x, hx, e1, e2⟩
theorem lse_inj {a b : Lse} (h : lseVal a = lseVal b) : a.til = b.til := by
  unfold lseVal at h
  injection h with h
  simp at h
  exact h.2.2.2.2.2
set_option maxRecDepth 8000 in
set_option maxHeartbeats 4000000 in
theorem expire_any {w : World} {b : Nat} {c : Cf} {tv : Value} {ep num : Int} {tb qb : Nat} {TL : List (Jk × Tsk)} {QL : List (Tok × Lse)} (h : BoardAt w b c tv ep num tb qb TL QL) (now : Int) (hnow : 0 ≤ now ∧ now ≤ 100000) (hI : BInv 1000000 100000 TL QL) :
    Calls Tryz.prog 76 #[.pointer (some ⟨b, 0, none⟩), .int .i64 now] w fun e w' => e = .returned (.tuple #[]) ∧ ∃ TL' QL', BoardAt w' b c tv ep num tb qb TL' QL' ∧ Kept (fun k => k = tb ∨ k = qb) w w' ∧ Exps now TL QL TL' QL' ∧ ∀ p ∈ QL', now < p.2.til := by
  obtain ⟨es0, clock, hqe, hqm⟩ := h.leases
  have hbl := h.lt
  have c10 := h.cell10
  have hrange := run_range_map (P := Tryz.prog) w 153 _ _ qb es0 clock Tryz.underlying153 hqe
  have HH := hide h
  have HQM := hide hqm
  have HQE := hide hqe
  clear h hqm
  go_enter Tryz.func76, Tryz.ntmps76
  go_wp2_with fail
  go_loopw [4, 5] (fun _ _ wr => ∃ (seen : Array Nat) (c0 : Nat) (es : Array MapEntry) (T1 : List (Jk × Tsk)) (Q1 : List (Tok × Lse)), wr.heap[w.heap.size]? = some (.mapIter (some qb) clock seen c0) ∧ clock ≤ c0 ∧ wr.heap[qb]? = some (.map es clock) ∧ MEnts leasesM es clock Q1 ∧ (∀ e ∈ es.toList, e ∈ es0.toList) ∧ (∀ e ∈ es.toList, e.born ∈ seen.toList → ∀ g, e.val = lseVal g → now < g.til) ∧ BoardAt wr b c tv ep num tb qb T1 Q1 ∧ Kept (fun k => k = tb ∨ k = qb) w wr ∧ Exps now TL QL T1 Q1 ∧ BInv 1000000 100000 T1 Q1)
    (fun _ _ wr => leftAt es0 w.heap.size wr)
  case atStart =>
    have hb0 : Below w.heap.size w (w.alloc (.mapIter (some qb) clock #[] clock)) := (Below.refl _ _).alloc (Nat.le_refl _) _
    exact ⟨#[], clock, es0, TL, QL, rlast _ _, Nat.le_refl _, (hb0.block _ (lt_of_heap (ud HQE))).trans (ud HQE), ud HQM, fun _ h => h, by simp, (ud HH).later hb0, Kept.of_below hb0, .nil, hI⟩
  case round =>
    obtain ⟨seen, c0, es, T1, Q1, hr, hc0, hqr, hm1, hin, hsn, hB, hK, hE, hI1⟩ := hrel
    have hrl := lt_of_heap hr
    clear hrange c10 hqe
    rcases run_next_at (P := Tryz.prog) wr 0 w.heap.size qb clock c0 seen es clock hr hqr hm1.born hc0 with ⟨hz, hnext⟩ | ⟨e, hel, w1, hw1, hnext⟩
    · have HP := hide (And.intro hm1 (And.intro hsn (And.intro hB (And.intro hK (And.intro hE hz)))))
      clear hz hm1 hsn hB hK hE hI1 hI hin
      go_wp2_with fail
      go_end0
      obtain ⟨hm1, hsn, hB, hK, hE, hz⟩ := ud HP
      refine ⟨rfl, T1, Q1, hB, hK, hE, fun p hp => ?_⟩
      obtain ⟨x, hx, ek, ev⟩ : ∃ x ∈ es.toList, x.key = tokVal p.1 ∧ x.val = lseVal p.2 := ents_of hm1 hp
      refine hsn x hx ?_ p.2 ev
      by_cases hs : x.born ∈ seen.toList
      · exact hs
      · have : x ∈ (leftOf es seen).toList := mem_leftOf.2 ⟨hx, hs⟩
        rw [Array.eq_empty_of_size_eq_zero hz] at this
        simp at this
    · have HEL := hide hel
      obtain ⟨hee, hns⟩ := mem_leftOf.1 hel
      have hr1 : w1.heap[w.heap.size]? = some (.mapIter (some qb) clock seen c0) := by rcases hw1 with rfl | rfl <;> exact hr
      have hq1 : w1.heap[qb]? = some (.map es clock) := by rcases hw1 with rfl | rfl <;> exact hqr
      have hne : qb ≠ w.heap.size := by have := lt_of_heap (ud HQE); omega
      obtain ⟨X, hX⟩ : ∃ X, setBlock w1 w.heap.size (.mapIter (some qb) clock (seen.push e.born) clock) = X := ⟨_, rfl⟩
      have hXr : X.heap[w.heap.size]? = some (.mapIter (some qb) clock (seen.push e.born) clock) := by rw [← hX]; exact setBlock_at (lt_of_heap hr1) _
      have hXb : X.heap[qb]? = some (.map es clock) := by rw [← hX, setBlock_other hne]; exact hq1
      have hkX : Kept (fun k => k = w.heap.size) wr X := by
        rw [← hX]; rcases hw1 with rfl | rfl
        · exact kept_block _
        · exact (Kept.refl (fun k => k = w.heap.size) wr).drew.trans (kept_block _) (fun _ _ h => h)
      have hBX := hB.kept hkX (fun k hk e => by have := (ud HH).foot_lt k hk; omega)
      have hKX : Kept (fun k => k = tb ∨ k = qb) w X := hK.trans hkX (fun i hi e => by omega)
      rw [hX] at hnext
      have hent := run_entry_at (P := Tryz.prog) X w.heap.size qb clock seen es clock e hXr hXb hee hm1.once
      obtain ⟨hdm, hk, hv⟩ := dec_at leases_ok hm1 hee
      obtain ⟨⟨t, y⟩, hy0⟩ : ∃ y, decE leasesM Q1 e = y := ⟨_, rfl⟩
      rw [hy0] at hdm hk hv
      have HKV := hide (And.intro hdm (And.intro hk hv))
      have hkey : e.key = tokVal t := hk
      have hval : e.val = lseVal y := hv
      unfold tokVal at hkey
      unfold lseVal at hval
      rw [hkey, hval] at hnext hent
      have hXl := lt_of_heap hXr
      have hxw := hBX.lt
      have HP := hide (And.intro hm1 (And.intro hsn (And.intro hBX (And.intro hKX (And.intro hE (And.intro hI1 (And.intro hin (And.intro hr (And.intro hXr (And.intro hXb hee))))))))))
      have hg0 : getM Q1 t = some y := getM_of hm1.nodup hdm
      have HGT := hide hg0
      obtain ⟨x, hx⟩ := hI1.job _ hdm
      have HXT := hide hx
      have hty := hI1.tries _ (getM_mem hx)
      dsimp only at hx hty
      have HF : ∀ V, Below X.heap.size X V → Hid (Calls Tryz.prog 45 #[.pointer (some ⟨b, 0, none⟩), .agg #[.int .i64 t.ep, .int .i64 t.num], .int .i64 now] V fun e w' => e = .returned (.tuple #[]) ∧ BoardAt w' b c tv ep num tb qb (putM T1 ⟨y.kd, y.s⟩ (x.failed now)) (delM Q1 t) ∧ Kept (fun k => k = tb ∨ k = qb) V w' ∧ ∃ es', w'.heap[qb]? = some (.map es' clock) ∧ MEnts leasesM es' clock (delM Q1 t) ∧ ∀ e, e ∈ es'.toList ↔ e ∈ es.toList ∧ e.key ≠ tokVal t) := fun V hV =>
        fail_any (hBX.later hV) t (hm1.wf _ hdm) hg0 (hI1.wfk _ (getM_mem hx)) hx now hnow ⟨hty.1, by omega⟩ hI1.len ((hV.block _ (lt_of_heap hXb)).trans hXb) hm1
      clear hm1 hsn hB hK hE hI1 hI hin hr hXr hXb hkX hBX hKX hr1 hq1 hX hw1 hk hv hdm hy0 hel hee hns hkey hval hqr hg0 hx hty
      have hV : Below X.heap.size X ((X.alloc (.cells #[.int .i64 t.ep, .int .i64 t.num] 49)).alloc (.cells #[.int .i64 y.kd, .int .i64 y.s.t, .int .i64 y.s.ser, .int .i64 y.s.win, .int .i64 y.slot, .int .i64 y.til] 149)) := ((Below.refl _ _).alloc (Nat.le_refl _) _).alloc ((Below.refl _ _).alloc (Nat.le_refl _) _).size _
      have HV := hide hV
      clear hV
      by_cases htil : y.til ≤ now
      · go_wp2_with (first | (go_at_call 45; refine (ud (HF _ (ud HV))).mono ?_; rintro e3 W3 ⟨rfl, h3⟩; have H3 := hide h3; clear h3))
        obtain ⟨hm1, hsn, hBX, hKX, hE, hI1, hin, hr, hXr, hXb, hee⟩ := ud HP
        obtain ⟨hB3, hK3, es3, hq3, hm3, hs3⟩ := ud H3
        obtain ⟨hdm, hek, hev⟩ := ud HKV
        have hV := ud HV
        have hr3 := hK3.heap ((hV.block _ hXl).trans hXr) (fun e => by
          rcases e with e | e
          · have := (ud HH).foot_lt tb (.inr (.inl rfl)); omega
          · exact hne e.symm)
        refine ⟨⟨_, _, es3, _, _, hr3, Nat.le_refl _, hq3, hm3, fun a ha => hin a ((hs3 a).1 ha).1, fun a ha hs g hg => ?_, hB3, (kept_below hKX hV).trans hK3 (fun _ _ h => h), .step hE (ud HGT) htil (ud HXT), hI1.step now (ud HGT) (ud HXT)⟩, ?_⟩
        · obtain ⟨ha1, ha2⟩ := (hs3 a).1 ha
          rw [Array.toList_push, List.mem_append] at hs
          rcases hs with hs | hs
          · exact hsn a ha1 hs g hg
          · rw [List.mem_singleton] at hs
            rw [once_eq hm1.once ha1 hee hs] at ha2
            exact absurd hek ha2
        · rw [leftAt_eq hr3, leftAt_eq hr]; exact left_less (mem_leftOf.2 ⟨hin e hee, (mem_leftOf.1 (ud HEL)).2⟩)
      · go_wp2_with fail
        obtain ⟨hm1, hsn, hBX, hKX, hE, hI1, hin, hr, hXr, hXb, hee⟩ := ud HP
        obtain ⟨hdm, hek, hev⟩ := ud HKV
        have hV := ud HV
        have hr3 := (hV.block _ hXl).trans hXr
        refine ⟨⟨_, _, es, _, _, hr3, Nat.le_refl _, (hV.block _ (lt_of_heap hXb)).trans hXb, hm1, hin, fun a ha hs g hg => ?_, hBX.later hV, kept_below hKX hV, hE, hI1⟩, ?_⟩
        · rw [Array.toList_push, List.mem_append] at hs
          rcases hs with hs | hs
          · exact hsn a ha hs g hg
          · rw [List.mem_singleton] at hs
            rw [once_eq hm1.once ha hee hs] at hg
            have := lse_inj (hg.symm.trans hev)
            dsimp only at this
            omega
        · rw [leftAt_eq hr3, leftAt_eq hr]; exact left_less (mem_leftOf.2 ⟨hin e hee, (mem_leftOf.1 (ud HEL)).2⟩)
end Go.Proofs.YtpbimdkclnekeaaGreat

namespace Go.Proofs.YtpbimdkclnekeaaGreat
open Go.RowKit Go.Maps Go.Shelf
open Go.ChangeMaps (setBlock)
set_option linter.unusedVariables false
set_option maxRecDepth 20000
theorem part_int (xs : Array Value) (i : Nat) (v : Value) (h : xs[i]? = some v) (w : World) : (part 3 xs i).run Tryz.prog w = .ok v w := by simp [part, h]
theorem eqS1 (d : Nat) (a b c a' b' c' : Int) (w : World) : (Op.equalIn (d + 2) 137 (.agg #[.int .i64 a, .int .i64 b, .int .i64 c]) (.agg #[.int .i64 a', .int .i64 b', .int .i64 c'])).run Tryz.prog w = .ok (a == a' && b == b' && c == c') w := by
  have hf : ∃ f1 f2 f3, (Tryz.prog.fieldsOf 137).toList = [f1, f2, f3] ∧ f1.name ≠ "_" ∧ f2.name ≠ "_" ∧ f3.name ≠ "_" ∧ f1.type = 3 ∧ f2.type = 3 ∧ f3.type = 3 ∧ f1.offset = 0 ∧ f2.offset = 1 ∧ f3.offset = 2 := by
    refine ⟨_, _, _, rfl, ?_⟩
    decide
  obtain ⟨f1, f2, f3, hf, n1, n2, n3, t1, t2, t3, o1, o2, o3⟩ := hf
  rw [run_equalIn_struct w (d + 1) 137 _ _ (by kernel_rfl) (by kernel_rfl), hf]
  simp only [Op.eqFields, n1, n2, n3, t1, t2, t3, o1, o2, o3, ne_eq, not_false_eq_true, if_true, Sem.run_bind, Sem.run_ite, Sem.run_pure,
    part_int #[.int .i64 a, .int .i64 b, .int .i64 c] 0 (.int .i64 a) rfl, part_int #[.int .i64 a, .int .i64 b, .int .i64 c] 1 (.int .i64 b) rfl, part_int #[.int .i64 a, .int .i64 b, .int .i64 c] 2 (.int .i64 c) rfl,
    part_int #[.int .i64 a', .int .i64 b', .int .i64 c'] 0 (.int .i64 a') rfl, part_int #[.int .i64 a', .int .i64 b', .int .i64 c'] 1 (.int .i64 b') rfl, part_int #[.int .i64 a', .int .i64 b', .int .i64 c'] 2 (.int .i64 c') rfl,
    Result.andThen_ok, run_equalIn_int _ _ _ _ _ _ _ Tryz.underlying3]
  cases a == a' <;> cases b == b' <;> cases c == c' <;> rfl
theorem eqJ1 (k a b c k' a' b' c' : Int) (w : World) : (Op.equal 147 (.agg #[.int .i64 k, .int .i64 a, .int .i64 b, .int .i64 c]) (.agg #[.int .i64 k', .int .i64 a', .int .i64 b', .int .i64 c'])).run Tryz.prog w = .ok (k == k' && (a == a' && b == b' && c == c')) w := by
  have hf : ∃ f1 f2, (Tryz.prog.fieldsOf 147).toList = [f1, f2] ∧ f1.name ≠ "_" ∧ f2.name ≠ "_" ∧ f1.type = 3 ∧ f2.type = 137 ∧ f1.offset = 0 ∧ f2.offset = 1 := by
    refine ⟨_, _, rfl, ?_⟩
    decide
  obtain ⟨f1, f2, hf, n1, n2, t1, t2, o1, o2⟩ := hf
  have hp : ∀ (k a b c : Int) (w : World), (part 137 #[.int .i64 k, .int .i64 a, .int .i64 b, .int .i64 c] 1).run Tryz.prog w = .ok (.agg #[.int .i64 a, .int .i64 b, .int .i64 c]) w := fun k a b c w => by kernel_rfl
  show (Op.equalIn (9999 + 1) 147 _ _).run Tryz.prog w = _
  rw [run_equalIn_struct w 9999 147 _ _ (by kernel_rfl) (by kernel_rfl), hf]
  simp only [Op.eqFields, n1, n2, t1, t2, o1, o2, ne_eq, not_false_eq_true, if_true, Sem.run_bind, Sem.run_ite, Sem.run_pure,
    part_int #[.int .i64 k, .int .i64 a, .int .i64 b, .int .i64 c] 0 (.int .i64 k) rfl, part_int #[.int .i64 k', .int .i64 a', .int .i64 b', .int .i64 c'] 0 (.int .i64 k') rfl, hp,
    Result.andThen_ok, show (9999 : Nat) = 9998 + 1 from rfl, run_equalIn_int _ _ _ _ _ _ _ Tryz.underlying3]
  rw [show (9998 + 1 : Nat) = 9997 + 2 from rfl, eqS1]
  cases k == k' <;> cases (a == a' && b == b' && c == c') <;> rfl
theorem eq_jk2 (a b : Jk) (w : World) : (binOp .eql 147 (.agg #[.int .i64 a.kd, .int .i64 a.s.t, .int .i64 a.s.ser, .int .i64 a.s.win]) (.agg #[.int .i64 b.kd, .int .i64 b.s.t, .int .i64 b.s.ser, .int .i64 b.s.win])).run Tryz.prog w = .ok (.bool (decide (a = b))) w := by
  have e1 : binOp .eql 147 (.agg #[.int .i64 a.kd, .int .i64 a.s.t, .int .i64 a.s.ser, .int .i64 a.s.win]) (.agg #[.int .i64 b.kd, .int .i64 b.s.t, .int .i64 b.s.ser, .int .i64 b.s.win]) = (Op.equal 147 (.agg #[.int .i64 a.kd, .int .i64 a.s.t, .int .i64 a.s.ser, .int .i64 a.s.win]) (.agg #[.int .i64 b.kd, .int .i64 b.s.t, .int .i64 b.s.ser, .int .i64 b.s.win]) >>= fun r => pure (Value.bool r)) := by unfold binOp; rfl
  have hd : (a.kd == b.kd && (a.s.t == b.s.t && a.s.ser == b.s.ser && a.s.win == b.s.win)) = decide (a = b) := by
    obtain ⟨k, ⟨t, s, w⟩⟩ := a
    obtain ⟨k', ⟨t', s', w'⟩⟩ := b
    rw [Bool.eq_iff_iff, decide_eq_true_iff]
    simp [and_assoc]
  rw [e1, Sem.run_bind, eqJ1, hd]
  rfl
end Go.Proofs.YtpbimdkclnekeaaGreat
