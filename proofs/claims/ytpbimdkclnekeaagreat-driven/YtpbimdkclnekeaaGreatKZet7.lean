import Derived.Test.YtpbimdkclnekeaaGreatKCnt0
import Derived.Test.YtpbimdkclnekeaaGreatKJn1
import Derived.Test.YtpbimdkclnekeaaGreatKBrd1

namespace Go.Proofs.YtpbimdkclnekeaaGreat
open Value (int)
open IntKind (i64)
open Go.RowKit Go.Maps Go.Shelf
open Go.ChangeMaps (setBlock)
set_option linter.unusedVariables false
theorem own_ge0 {w : World} {base : Nat} {e : TypeId} {size : Nat} {v : Value} {n : Nat} {xs : List Value} (h : w.ownsRow base e size v n xs) : ∀ k, v.ownBlock = some k -> base <= k := fun k hk => by
 rcases h.2 with ⟨rfl, _⟩ | ⟨g, cap, cur, rfl, hb, _⟩
 ·simp [Value.ownBlock] at hk
 ·simp [Value.ownBlock] at hk; subst hk; exact hb
def zdw (L : LV) (f ser a : Int) (j : Nat) : List Cl := (List.range j).filterMap (fun i : Nat => (getL L ⟨f, ser, a + i⟩).map (·.cl))
theorem standT_succ (L : LV) (f ser a : Int) (j : Nat) : zdw L f ser a (j + 1) = zdw L f ser a j ++ (match getL L ⟨f, ser, a + j⟩ with | some v => [v.cl] | none => []) := by
 unfold zdw
 rw [List.range_succ, List.filterMap_append]
 congr 1
 cases h : getL L ⟨f, ser, a + j⟩ <;> simp [h]
theorem standT_len (L : LV) (f ser a : Int) (j : Nat) : (zdw L f ser a j).length <= j := by
 have := List.length_filterMap_le (fun i : Nat => (getL L ⟨f, ser, a + i⟩).map (·.cl)) (List.range j)
 simpa [zdw] using this
def zcf (c : Cf) (L : LV) (ser win : Int) (k : Nat) : List Cl := zdw L (c.F k) ser (win * zcx c k) (zcx c k).toNat
set_option maxRecDepth 20000 in
set_option maxHeartbeats 4000000 in
theorem stands_any {w : World} {s : Nat} {c : Cf} {tv : Value} {lb gb : Nat} {Gl : List (Sg × Unit)} {L : LV} (h : zcp w s c tv lb gb Gl L) (hc : c.ok) (k : Nat) (hk : k < c.n) (ser win : Int) (hser : zdg ser) (hwn : 0 <= win /\ win <= 100000) :
  Calls Tryz.prog 142 #[.pointer (some ⟨s, 0, none⟩), .agg #[int i64 k, int i64 ser, int i64 win]] w fun e w' => ∃ ad g cap, e = .returned (.slice ad (zcf c L ser win k).length cap) /\ (zcf c L ser win k ≠ [] -> ad = some ⟨g, 0, none⟩) /\ g < w'.heap.size /\ CAt w' g (zcf c L ser win k) /\ Below w.heap.size w w' := by
 obtain ⟨a, cap, rfl⟩ := zbt h.trow
 have hsl := h.lt
 have hts := TS.of_owns h.trow
 obtain ⟨c0, c1, c2, c3, c4, c5, c6, c7, -⟩ := h.cells
 obtain ⟨hm1, hm2⟩ := many_bounds hc hk
 obtain ⟨f1, f2⟩ := hc.F k hk
 have hn4 := hc.n4
 have hp1 : 0 <= win * zcx c k /\ win * zcx c k <= 100000000 := ⟨Int.mul_nonneg hwn.1 hm1, by have := Int.mul_le_mul hwn.2 hm2 hm1 (by omega); omega⟩
 have hp2 : (win + 1) * zcx c k = win * zcx c k + zcx c k := by rw [Int.add_mul, Int.one_mul]
 have hlen : ∀ j : Nat, j <= (zcx c k).toNat -> (zdw L (c.F k) ser (win * zcx c k) j).length <= 1000 := fun j hj => by have := standT_len L (c.F k) ser (win * zcx c k) j; omega
 have HLB := fun W hW => zac (lbelow_any c hc a cap k hk win hwn W (hts.below (w' := W) hW))
 rw [show zcf c L ser win k = zdw L (c.F k) ser (win * zcx c k) (zcx c k).toNat from rfl]
 simp only [hp2] at HLB
 generalize win * zcx c k = A at *
 generalize zcx c k = M at *
 have HLEN := zac hlen
 clear hlen hp2
 have hba : Below w.heap.size w (w.alloc (.cells #[int i64 k, int i64 ser, int i64 win] 137)) := (Below.refl _ _).alloc (Nat.le_refl _) _
 have q0 := zag w (.cells #[int i64 k, int i64 ser, int i64 win] 137)
 have qz := zbm w (.cells #[int i64 k, int i64 ser, int i64 win] 137)
 have k0 : (w.alloc (.cells #[int i64 k, int i64 ser, int i64 win] 137)).cell? ⟨w.heap.size, 0, none⟩ = some (int i64 k) := by rw [zab q0]; rfl
 have k1 : (w.alloc (.cells #[int i64 k, int i64 ser, int i64 win] 137)).cell? ⟨w.heap.size, 1, none⟩ = some (int i64 ser) := by rw [zab q0]; rfl
 have k2 : (w.alloc (.cells #[int i64 k, int i64 ser, int i64 win] 137)).cell? ⟨w.heap.size, 2, none⟩ = some (int i64 win) := by rw [zab q0]; rfl
 have d0 := (hba.cell (p := ⟨s, 0, none⟩) hsl).trans c0
 have d1 := (hba.cell (p := ⟨s, 1, none⟩) hsl).trans c1
 have d2 := (hba.cell (p := ⟨s, 2, none⟩) hsl).trans c2
 have d3 := (hba.cell (p := ⟨s, 3, none⟩) hsl).trans c3
 have d4 := (hba.cell (p := ⟨s, 4, none⟩) hsl).trans c4
 have d5 := (hba.cell (p := ⟨s, 5, none⟩) hsl).trans c5
 have d6 := (hba.cell (p := ⟨s, 6, none⟩) hsl).trans c6
 have HBA := zac hba
 have H := zac h
 have Q0 := zac q0
 have BZ := zac qz
 clear h hts hba q0 c0 c1 c2 c3 c4 c5 c6
 go_enter Tryz.func142, Tryz.ntmps142
 go_wp2_with fail
 have q1 : w.heap.size < w.heap.size + 1 := by omega
 have q2 : s < w.heap.size + 1 := by omega
 generalize (w.alloc (.cells #[int i64 k, int i64 ser, int i64 win] 137)) = X at *
 generalize hN : w.heap.size + 1 = N at *
 have hne : Nonempty (zbg N X) := zbg.some _ _
 have hlc := fun (u : zbg N X) b o h => u.cell b o h
 have hNX : N <= X.heap.size := by rw [ud BZ]; exact Nat.le_refl _
 have HNX := zac hNX
 have HNL : Hid (w.heap.size <= N) := by show w.heap.size <= N; omega
 have HN := zac hN
 clear hNX hN
 refine zak N (by kernel_rfl) (by kernel_rfl) ?_
 repeat (go_big_quiet_step (first
  | (go_at_call 190; exact Calls.later (ud HNX) (ud (HLB _ ((ud HBA).trans (Below.mono (Subtype.property _) (ud HNL))))))))
 refine wpQuiet_nil ?_
 rintro ⟨w1, hb1⟩
 clear hlc hne
 dsimp only
 go_wp2_with fail
 have hbw1 : Below w.heap.size w w1 := (ud HBA).trans (hb1.mono (ud HNL))
 have hq0 : w1.heap[w.heap.size]? = some (.cells #[int i64 k, int i64 ser, int i64 win] 137 (0, 0)) := (hb1.block _ (by have := ud HN; omega)).trans (ud Q0)
 have hwz1 := zaa hq0
 have HS1 := zac ((ud H).later hbw1)
 have HQ := zac hq0
 have HBW1 := zac hbw1
 have hfl := ((ud HS1).foot_lt)
 have HFL := zac hfl
 have hlbw1 : lb < w1.heap.size := hfl lb (.inr (.inr (.inl rfl)))
 clear hq0 hbw1 hfl hb1 HBA HLB HNX HNL HN BZ Q0 k0 k1 k2 d0 d1 d2 d3 d4 d5 d6 q1 q2 c7
 go_loopw [5, 9, 10, 11] (fun cv wv _ _ wr => ∃ j : Nat, j <= M.toNat /\ wv = int i64 (A + j) /\ wr.ownsRow w1.heap.size 114 4 cv (zdw L (c.F k) ser A j).length ((zdw L (c.F k) ser A j).flatMap clCells) /\ Below w1.heap.size w1 wr)
  (fun _ wv _ _ _ => (A + M - intOf wv).toNat)
 case atStart => exact ⟨0, Nat.zero_le _, by simp, World.ownsRow_nil _ _ _ _, Below.refl _ _⟩
 case round =>
  obtain ⟨j, hj, rfl, hv, hb⟩ := hrel
  obtain ⟨ad, cp, hv0⟩ := zbt hv
  have hj1 := ud HLEN j hj
  by_cases hlt : j < M.toNat
  ·have hlt' : A + j < A + M := by omega
   have hsr := (ud HS1).later hb
   obtain ⟨-, -, -, -, -, -, -, x7, -⟩ := hsr.cells
   have hsrl := hsr.lt
   have hqr := (hb.block _ hwz1).trans (ud HQ)
   have y1 : wr.cell? ⟨w.heap.size, 1, none⟩ = some (int i64 ser) := by rw [zab hqr]; rfl
   have hqrl := zaa hqr
   have hkw : (⟨c.F k, ser, A + j⟩ : Sg).wf := ⟨by unfold zdg; dsimp only; omega, hser, by unfold zdg; dsimp only; omega⟩
   obtain ⟨sv, hsv⟩ : ∃ sv, stL L ⟨c.F k, ser, A + j⟩ = sv := ⟨_, rfl⟩
   obtain ⟨ok, hok⟩ : ∃ ok, (getL L ⟨c.F k, ser, A + j⟩).isSome = ok := ⟨_, rfl⟩
   have g0 := lookTV (X := wr) hsr.live (Below.refl _ _) hkw
   have g1 := lookTV (X := wr.drew) hsr.live (Below.refl _ _).drew hkw
   have g2 := fun o => lookTV (X := wr.alloc o) hsr.live ((Below.refl _ _).alloc (Nat.le_refl _) o) hkw
   have g3 := fun o => lookTV (X := (wr.alloc o).drew) hsr.live ((Below.refl _ _).alloc (Nat.le_refl _) o).drew hkw
   have g4 := fun o => lookTV (X := wr.drew.alloc o) hsr.live ((Below.refl _ _).drew.alloc (Nat.le_refl _) o) hkw
   rw [hsv, hok] at g0 g1
   simp only [hsv, hok] at g2 g3 g4
   have HV := zac hv
   have HB := zac hb
   have HSV := zac hsv
   have HOK := zac hok
   subst hv0
   clear hv hb hsr hqr hkw hsv hok
   go_wp2_with fail
   go_region
   have hbY : Below wr.heap.size wr ((wr.alloc (.cells #[int i64 sv.st, int i64 sv.cl.cnt, int i64 sv.cl.sum, .int .i32 sv.cl.mn, .int .i32 sv.cl.mx] 131)).drew) := ((Below.refl _ _).alloc (Nat.le_refl _) _).drew
   have hlY : ((wr.alloc (.cells #[int i64 sv.st, int i64 sv.cl.cnt, int i64 sv.cl.sum, .int .i32 sv.cl.mn, .int .i32 sv.cl.mx] 131)).drew).heap[wr.heap.size]? = some (.cells #[int i64 sv.st, int i64 sv.cl.cnt, int i64 sv.cl.sum, .int .i32 sv.cl.mn, .int .i32 sv.cl.mx] 131) := zag _ _
   have hzY : ((wr.alloc (.cells #[int i64 sv.st, int i64 sv.cl.cnt, int i64 sv.cl.sum, .int .i32 sv.cl.mn, .int .i32 sv.cl.mx] 131)).drew).heap.size = wr.heap.size + 1 := zbm _ _
   generalize ((wr.alloc (.cells #[int i64 sv.st, int i64 sv.cl.cnt, int i64 sv.cl.sum, .int .i32 sv.cl.mn, .int .i32 sv.cl.mx] 131)).drew) = Y at *
   have HBY := zac hbY
   have HLY := zac hlY
   have HZY := zac hzY
   clear g0 g1 g2 g3 g4 x7 y1 hbY hlY hzY
   have hg : zdw L (c.F k) ser A (j + 1) = zdw L (c.F k) ser A j ++ (if ok then [sv.cl] else []) := by
    rw [standT_succ]
    have h1 := ud HOK
    have h2 := ud HSV
    unfold stL at h2
    cases hgg : getL L ⟨c.F k, ser, A + j⟩ with
    | none => rw [hgg] at h1; simp at h1; subst h1; simp
    | some v => rw [hgg] at h1 h2; simp at h1 h2; subst h1 h2; simp
   have hwz := (ud HB).size
   cases ok with
   | false =>
    have HG := zac (show zdw L (c.F k) ser A (j + 1) = zdw L (c.F k) ser A j by rw [hg]; simp)
    clear hg
    go_wp2_with fail
    go_roundw
    case rel =>
     refine ⟨j + 1, by omega, by simp; omega, ?_, (ud HB).trans ((ud HBY).mono hwz)⟩
     rw [ud HG]
     exact zff (ud HV) (ud HBY)
    case measure => simp [intOf]; omega
   | true =>
    have HG := zac (show zdw L (c.F k) ser A (j + 1) = zdw L (c.F k) ser A j ++ [sv.cl] by rw [hg]; simp)
    clear hg
    have o1 : Y.cell? ⟨wr.heap.size, 1, none⟩ = some (int i64 sv.cl.cnt) := by rw [zab (ud HLY)]; rfl
    have o2 : Y.cell? ⟨wr.heap.size, 2, none⟩ = some (int i64 sv.cl.sum) := by rw [zab (ud HLY)]; rfl
    have o3 : Y.cell? ⟨wr.heap.size, 3, none⟩ = some (.int .i32 sv.cl.mn) := by rw [zab (ud HLY)]; rfl
    have o4 : Y.cell? ⟨wr.heap.size, 4, none⟩ = some (.int .i32 sv.cl.mx) := by rw [zab (ud HLY)]; rfl
    have hwY : wr.heap.size < Y.heap.size := by rw [ud HZY]; omega
    have HOW := zac (zff (ud HV) (ud HBY))
    go_wp2_with (first | (at_builtin; refine push_cl rfl _ _ rfl w1.heap.size (.slice ad (zdw L (c.F k) ser A j).length cp) (zdw L (c.F k) ser A j) sv.cl rfl ((ud HOW).alloc _) Y.heap.size rfl (zag _ _) ?hll ?hbb ?_; (case hll => omega); (case hbb => (rw [zbm]; omega)); intro g cap2 Z hown hgrow hltz; have HG2 := zac hgrow; have HO := zac hown; clear hgrow hown) | go_in)
    go_roundw
    case rel =>
     have hyb := (ud HB).trans ((ud HBY).mono hwz)
     have hya := hyb.alloc hyb.size (.cells #[int i64 sv.cl.cnt, int i64 sv.cl.sum, .int .i32 sv.cl.mn, .int .i32 sv.cl.mx] 114)
     refine ⟨j + 1, by omega, by simp; omega, ?_, hya.grown (ud HG2) hya.size (fun q e => ?_)⟩
     ·rw [ud HG]; have := ud HO; rw [List.length_append, List.length_singleton] at this ⊢; exact this
     ·exact own_ge0 (ud HV) q e
    case measure => simp [intOf]; omega
  ·obtain rfl : j = M.toNat := by omega
   have hnl : decide (A + (M.toNat : Int) < A + M) = false := by simp; omega
   subst hv0
   have HV := zac hv
   have HB := zac hb
   clear hv hb
   go_wp2_with fail
   go_ret
   have hv := ud HV
   have hB := (ud HBW1).trans ((ud HB).mono (ud HBW1).size)
   by_cases h0 : 0 < (zdw L (c.F k) ser A M.toNat).length
   ·obtain ⟨g, cap', hvv, hbg, hlg⟩ := hv.form h0
    cases hvv
    exact ⟨_, g, _, rfl, fun _ => rfl, hlg, CAt.of_owns hv, hB⟩
   ·have hnil : zdw L (c.F k) ser A M.toNat = [] := List.eq_nil_of_length_eq_zero (by omega)
    exact ⟨_, s, _, rfl, fun hh => absurd hnil hh, by have := (ud H).lt; have := hB.size; omega, by rw [hnil]; intro j x hx; simp at hx, hB⟩
end Go.Proofs.YtpbimdkclnekeaaGreat

namespace Go.Proofs.YtpbimdkclnekeaaGreat
open Go.RowKit Go.Maps Go.Shelf
set_option linter.unusedVariables false
def cntP (P : Nm -> Prop) [DecidablePred P] : List Nm -> Int
 | [] => 0
 | x :: r => (if P x then 1 else 0) + cntP P r
def sumP (P : Nm -> Prop) [DecidablePred P] : List Nm -> Int
 | [] => 0
 | x :: r => (if P x then x.val else 0) + sumP P r
structure IsC (P : Nm -> Prop) [DecidablePred P] (ns : List Nm) (a : Cl) : Prop where
 cnt : a.cnt = cntP P ns
 sum : a.sum = wrap64 (sumP P ns)
 none : cntP P ns = 0 -> a.mn = 0 /\ a.mx = 0
 mn : cntP P ns ≠ 0 -> (∃ x ∈ ns, P x /\ x.val = a.mn) /\ ∀ x ∈ ns, P x -> a.mn <= x.val
 mx : cntP P ns ≠ 0 -> (∃ x ∈ ns, P x /\ x.val = a.mx) /\ ∀ x ∈ ns, P x -> x.val <= a.mx
section
variable {P Q : Nm -> Prop} [DecidablePred P] [DecidablePred Q] {ns : List Nm}
theorem zeq : ∀ ns : List Nm, 0 <= cntP P ns /\ cntP P ns <= ns.length
 | [] => by simp [cntP]
 | x :: r => by
  have := zeq r
  simp only [cntP, List.length_cons]
  split <;> omega
theorem cntP_zero : ∀ {ns : List Nm}, cntP P ns = 0 ↔ ∀ x ∈ ns, ¬ P x
 | [] => by simp [cntP]
 | x :: r => by
  have h1 := zeq (P := P) r
  have h2 := cntP_zero (ns := r)
  simp only [cntP, List.mem_cons, forall_eq_or_imp]
  constructor
  ·intro h
   by_cases hx : P x
   ·rw [if_pos hx] at h; omega
   ·rw [if_neg hx] at h; exact ⟨hx, h2.1 (by omega)⟩
  ·rintro ⟨h3, h4⟩
   rw [if_neg h3, h2.2 h4]; rfl
theorem sumP_zero : ∀ {ns : List Nm}, (∀ x ∈ ns, ¬ P x) -> sumP P ns = 0
 | [], _ => by simp [sumP]
 | x :: r, h => by
  have h2 := sumP_zero (ns := r) (fun y hy => h y (by simp [hy]))
  simp only [sumP]
  rw [if_neg (h x (by simp)), h2]; rfl
theorem cntP_congr : ∀ {ns : List Nm}, (∀ x ∈ ns, P x ↔ Q x) -> cntP P ns = cntP Q ns /\ sumP P ns = sumP Q ns
 | [], _ => by simp [cntP, sumP]
 | x :: r, h => by
  have h2 := cntP_congr (ns := r) (fun y hy => h y (by simp [hy]))
  have h3 := h x (by simp)
  simp only [cntP, sumP, h3, h2.1, h2.2, and_self]
theorem cntP_or {R : Nm -> Prop} [DecidablePred R] : ∀ {ns : List Nm}, (∀ x ∈ ns, R x ↔ P x \/ Q x) -> (∀ x ∈ ns, ¬ (P x /\ Q x)) -> cntP R ns = cntP P ns + cntP Q ns /\ sumP R ns = sumP P ns + sumP Q ns
 | [], _, _ => by simp [cntP, sumP]
 | x :: r, h, hn => by
  have h2 := cntP_or (ns := r) (fun y hy => h y (by simp [hy])) (fun y hy => hn y (by simp [hy]))
  have h3 := h x (by simp)
  have h4 := hn x (by simp)
  simp only [cntP, sumP, h2.1, h2.2]
  by_cases p : P x
  ·have q : ¬ Q x := fun q => h4 ⟨p, q⟩
   simp only [h3, p, q, true_or, if_true, if_false]; constructor <;> omega
  ·by_cases q : Q x
   ·simp only [h3, p, q, or_true, if_true, if_false]; constructor <;> omega
   ·simp only [h3, p, q, or_self, if_false]; constructor <;> omega
theorem IsC.congr {a : Cl} (h : IsC P ns a) (hp : ∀ x ∈ ns, P x ↔ Q x) : IsC Q ns a := by
 obtain ⟨e1, e2⟩ := cntP_congr hp
 refine ⟨by rw [h.cnt, e1], by rw [h.sum, e2], fun h0 => h.none (by rw [e1]; exact h0), fun h0 => ?_, fun h0 => ?_⟩
 ·obtain ⟨⟨x, hx, px, ex⟩, h2⟩ := h.mn (by rw [e1]; exact h0)
  exact ⟨⟨x, hx, (hp x hx).1 px, ex⟩, fun y hy qy => h2 y hy ((hp y hy).2 qy)⟩
 ·obtain ⟨⟨x, hx, px, ex⟩, h2⟩ := h.mx (by rw [e1]; exact h0)
  exact ⟨⟨x, hx, (hp x hx).1 px, ex⟩, fun y hy qy => h2 y hy ((hp y hy).2 qy)⟩
theorem IsC.one {a b : Cl} (h : IsC P ns a) (k : IsC P ns b) : a = b := by
 obtain ⟨a1, a2, a3, a4⟩ := a
 obtain ⟨b1, b2, b3, b4⟩ := b
 have e1 := h.cnt.trans k.cnt.symm
 have e2 := h.sum.trans k.sum.symm
 simp only at e1 e2
 subst e1 e2
 by_cases h0 : cntP P ns = 0
 ·obtain ⟨x1, x2⟩ := h.none h0
  obtain ⟨y1, y2⟩ := k.none h0
  simp only at x1 x2 y1 y2
  subst x1 x2 y1 y2; rfl
 ·obtain ⟨⟨x, hx, px, ex⟩, x2⟩ := h.mn h0
  obtain ⟨⟨y, hy, py, ey⟩, y2⟩ := k.mn h0
  obtain ⟨⟨z, hz, pz, ez⟩, z2⟩ := h.mx h0
  obtain ⟨⟨u, hu, pu, eu⟩, u2⟩ := k.mx h0
  simp only at ex ey ez eu x2 y2 z2 u2
  have := x2 y hy py; have := y2 x hx px; have := z2 u hu pu; have := u2 z hz pz
  have e3 : a3 = b3 := by omega
  have e4 : a4 = b4 := by omega
  subst e3 e4; rfl
theorem IsC.zero (h : ∀ x ∈ ns, ¬ P x) : IsC P ns zdn := by
 have h1 := cntP_zero.2 h
 have h2 := sumP_zero h
 exact ⟨by rw [h1]; rfl, by rw [h2]; show (0 : Int) = wrap64 0; unfold wrap64; omega, fun _ => ⟨rfl, rfl⟩, fun h0 => absurd h1 h0, fun h0 => absurd h1 h0⟩
theorem cntP_snoc (x : Nm) : ∀ ns : List Nm, cntP P (ns ++ [x]) = cntP P ns + (if P x then 1 else 0) /\ sumP P (ns ++ [x]) = sumP P ns + (if P x then x.val else 0)
 | [] => by simp [cntP, sumP]
 | y :: r => by
  have h := cntP_snoc x r
  simp only [List.cons_append, cntP, sumP, h.1, h.2]
  constructor <;> omega
theorem IsC.skip {a : Cl} {x : Nm} (h : IsC P ns a) (hx : ¬ P x) : IsC P (ns ++ [x]) a := by
 obtain ⟨e1, e2⟩ := cntP_snoc (P := P) x ns
 rw [if_neg hx, Int.add_zero] at e1 e2
 refine ⟨by rw [h.cnt, e1], by rw [h.sum, e2], fun h0 => h.none (by rw [<- e1]; exact h0), fun h0 => ?_, fun h0 => ?_⟩
 ·obtain ⟨⟨y, hy, py, ey⟩, y2⟩ := h.mn (by rw [<- e1]; exact h0)
  refine ⟨⟨y, by simp [hy], py, ey⟩, fun z hz pz => ?_⟩
  rcases List.mem_append.1 hz with hz | hz
  ·exact y2 z hz pz
  ·rw [List.mem_singleton] at hz; subst hz; exact absurd pz hx
 ·obtain ⟨⟨y, hy, py, ey⟩, y2⟩ := h.mx (by rw [<- e1]; exact h0)
  refine ⟨⟨y, by simp [hy], py, ey⟩, fun z hz pz => ?_⟩
  rcases List.mem_append.1 hz with hz | hz
  ·exact y2 z hz pz
  ·rw [List.mem_singleton] at hz; subst hz; exact absurd pz hx
def addW (a : Cl) (v : Int) : Cl := ⟨a.cnt + 1, wrap64 (a.sum + v), if a.cnt = 0 \/ v < a.mn then v else a.mn, if a.cnt = 0 \/ a.mx < v then v else a.mx⟩
theorem IsC.add {a : Cl} {x : Nm} (h : IsC P ns a) (hx : P x) : IsC P (ns ++ [x]) (addW a x.val) := by
 obtain ⟨e1, e2⟩ := cntP_snoc (P := P) x ns
 rw [if_pos hx] at e1 e2
 have hn := zeq (P := P) ns
 have hc := h.cnt
 refine ⟨by show a.cnt + 1 = _; omega, by show wrap64 (a.sum + x.val) = _; rw [h.sum, wrap_in, e2], fun h0 => by omega, fun h0 => ?_, fun h0 => ?_⟩
 ·by_cases hz : cntP P ns = 0
  ·have hnp := cntP_zero.1 hz
   refine ⟨⟨x, by simp, hx, ?_⟩, fun z hzm pz => ?_⟩
   ·show x.val = if a.cnt = 0 \/ x.val < a.mn then x.val else a.mn
    rw [if_pos (.inl (by omega))]
   ·show (if a.cnt = 0 \/ x.val < a.mn then x.val else a.mn) <= z.val
    rw [if_pos (.inl (by omega))]
    rcases List.mem_append.1 hzm with hzm | hzm
    ·exact absurd pz (hnp z hzm)
    ·rw [List.mem_singleton] at hzm; subst hzm; omega
  ·obtain ⟨⟨y, hy, py, ey⟩, y2⟩ := h.mn hz
   have hz' : ¬ a.cnt = 0 := by omega
   show (∃ z ∈ ns ++ [x], P z /\ z.val = (if a.cnt = 0 \/ x.val < a.mn then x.val else a.mn)) /\ ∀ z ∈ ns ++ [x], P z -> (if a.cnt = 0 \/ x.val < a.mn then x.val else a.mn) <= z.val
   by_cases hl : x.val < a.mn
   ·rw [if_pos (.inr hl)]
    refine ⟨⟨x, by simp, hx, rfl⟩, fun z hzm pz => ?_⟩
    rcases List.mem_append.1 hzm with hzm | hzm
    ·have := y2 z hzm pz; omega
    ·rw [List.mem_singleton] at hzm; subst hzm; omega
   ·rw [if_neg (by omega)]
    refine ⟨⟨y, by simp [hy], py, ey⟩, fun z hzm pz => ?_⟩
    rcases List.mem_append.1 hzm with hzm | hzm
    ·exact y2 z hzm pz
    ·rw [List.mem_singleton] at hzm; subst hzm; omega
 ·by_cases hz : cntP P ns = 0
  ·have hnp := cntP_zero.1 hz
   refine ⟨⟨x, by simp, hx, ?_⟩, fun z hzm pz => ?_⟩
   ·show x.val = if a.cnt = 0 \/ a.mx < x.val then x.val else a.mx
    rw [if_pos (.inl (by omega))]
   ·show z.val <= (if a.cnt = 0 \/ a.mx < x.val then x.val else a.mx)
    rw [if_pos (.inl (by omega))]
    rcases List.mem_append.1 hzm with hzm | hzm
    ·exact absurd pz (hnp z hzm)
    ·rw [List.mem_singleton] at hzm; subst hzm; omega
  ·obtain ⟨⟨y, hy, py, ey⟩, y2⟩ := h.mx hz
   have hz' : ¬ a.cnt = 0 := by omega
   show (∃ z ∈ ns ++ [x], P z /\ z.val = (if a.cnt = 0 \/ a.mx < x.val then x.val else a.mx)) /\ ∀ z ∈ ns ++ [x], P z -> z.val <= (if a.cnt = 0 \/ a.mx < x.val then x.val else a.mx)
   by_cases hl : a.mx < x.val
   ·rw [if_pos (.inr hl)]
    refine ⟨⟨x, by simp, hx, rfl⟩, fun z hzm pz => ?_⟩
    rcases List.mem_append.1 hzm with hzm | hzm
    ·have := y2 z hzm pz; omega
    ·rw [List.mem_singleton] at hzm; subst hzm; omega
   ·rw [if_neg (by omega)]
    refine ⟨⟨y, by simp [hy], py, ey⟩, fun z hzm pz => ?_⟩
    rcases List.mem_append.1 hzm with hzm | hzm
    ·exact y2 z hzm pz
    ·rw [List.mem_singleton] at hzm; subst hzm; omega
end
theorem IsC.join {P Q R : Nm -> Prop} [DecidablePred P] [DecidablePred Q] [DecidablePred R] {ns : List Nm} {zs : List Cl} {z : Cl} (h : IsC P ns (zcd zs)) (hz : zs = [] ↔ cntP P ns = 0) (k : IsC Q ns z) (hq : cntP Q ns ≠ 0) (hr : ∀ x ∈ ns, R x ↔ P x \/ Q x) (hn : ∀ x ∈ ns, ¬ (P x /\ Q x)) (hl : (ns.length : Int) < 9223372036854775808) :
  IsC R ns (zcd (zs ++ [z])) /\ cntP R ns ≠ 0 := by
 obtain ⟨e1, e2⟩ := cntP_or hr hn
 have b1 := zeq (P := P) ns
 have b2 := zeq (P := Q) ns
 have b3 := zeq (P := R) ns
 have hR : cntP R ns ≠ 0 := by omega
 have c1 := h.cnt
 have c2 := h.sum
 have jc : (zcd (zs ++ [z])).cnt = wrap64 ((zcd zs).cnt + z.cnt) := by simp only [zcd, List.map_append, List.map_cons, List.map_nil, wsum_snoc]
 have js : (zcd (zs ++ [z])).sum = wrap64 ((zcd zs).sum + z.sum) := by simp only [zcd, List.map_append, List.map_cons, List.map_nil, wsum_snoc]
 have k1 := k.cnt
 have k2 := k.sum
 obtain ⟨⟨q1, hq1, pq1, eq1⟩, q2⟩ := k.mn hq
 obtain ⟨⟨r1, hr1, pr1, er1⟩, r2⟩ := k.mx hq
 have hmn : (∃ x ∈ ns, R x /\ x.val = (zcd (zs ++ [z])).mn) /\ ∀ x ∈ ns, R x -> (zcd (zs ++ [z])).mn <= x.val := by
  simp only [zcd, foldF_snoc]
  cases hf : zew ord1 zs with
  | none =>
   have hzs : zs = [] := by
    rcases List.eq_nil_or_concat zs with h | ⟨l, x, rfl⟩
    ·exact h
    ·rw [List.concat_eq_append, foldF_snoc] at hf; unfold stepF at hf; split at hf <;> (try split at hf) <;> cases hf
   have hp0 := cntP_zero.1 (hz.1 hzs)
   simp only [stepF, Option.getD_some]
   exact ⟨⟨q1, hq1, (hr q1 hq1).2 (.inr pq1), eq1⟩, fun x hx rx => ((hr x hx).1 rx).elim (fun px => absurd px (hp0 x hx)) (q2 x hx)⟩
  | some g =>
   have hzs : zs ≠ [] := fun e => by rw [e] at hf; cases hf
   have hp0 : cntP P ns ≠ 0 := fun e => hzs (hz.2 e)
   obtain ⟨⟨p1, hp1, pp1, ep1⟩, p2⟩ := h.mn hp0
   simp only [zcd, hf, Option.getD_some] at ep1 p2
   simp only [stepF, ord1, cmpI]
   by_cases hlt : z.mn < g.mn
   ·simp only [hlt, if_true, show (-1 : Int) < 0 by omega, Option.getD_some]
    refine ⟨⟨q1, hq1, (hr q1 hq1).2 (.inr pq1), eq1⟩, fun x hx rx => ((hr x hx).1 rx).elim (fun px => ?_) (q2 x hx)⟩
    have := p2 x hx px; omega
   ·have : ¬ (if z.mn < g.mn then (-1 : Int) else if g.mn < z.mn then 1 else 0) < 0 := by rw [if_neg hlt]; split <;> omega
    simp only [this, if_false, Option.getD_some]
    refine ⟨⟨p1, hp1, (hr p1 hp1).2 (.inl pp1), ep1⟩, fun x hx rx => ((hr x hx).1 rx).elim (p2 x hx) (fun qx => ?_)⟩
    have := q2 x hx qx; omega
 have hmx : (∃ x ∈ ns, R x /\ x.val = (zcd (zs ++ [z])).mx) /\ ∀ x ∈ ns, R x -> x.val <= (zcd (zs ++ [z])).mx := by
  simp only [zcd, foldF_snoc]
  cases hf : zew ord2 zs with
  | none =>
   have hzs : zs = [] := by
    rcases List.eq_nil_or_concat zs with h | ⟨l, x, rfl⟩
    ·exact h
    ·rw [List.concat_eq_append, foldF_snoc] at hf; unfold stepF at hf; split at hf <;> (try split at hf) <;> cases hf
   have hp0 := cntP_zero.1 (hz.1 hzs)
   simp only [stepF, Option.getD_some]
   exact ⟨⟨r1, hr1, (hr r1 hr1).2 (.inr pr1), er1⟩, fun x hx rx => ((hr x hx).1 rx).elim (fun px => absurd px (hp0 x hx)) (r2 x hx)⟩
  | some g =>
   have hzs : zs ≠ [] := fun e => by rw [e] at hf; cases hf
   have hp0 : cntP P ns ≠ 0 := fun e => hzs (hz.2 e)
   obtain ⟨⟨p1, hp1, pp1, ep1⟩, p2⟩ := h.mx hp0
   simp only [zcd, hf, Option.getD_some] at ep1 p2
   simp only [stepF, ord2, cmpI]
   by_cases hlt : g.mx < z.mx
   ·simp only [hlt, if_true, show (-1 : Int) < 0 by omega, Option.getD_some]
    refine ⟨⟨r1, hr1, (hr r1 hr1).2 (.inr pr1), er1⟩, fun x hx rx => ((hr x hx).1 rx).elim (fun px => ?_) (r2 x hx)⟩
    have := p2 x hx px; omega
   ·have : ¬ (if g.mx < z.mx then (-1 : Int) else if z.mx < g.mx then 1 else 0) < 0 := by rw [if_neg hlt]; split <;> omega
    simp only [this, if_false, Option.getD_some]
    refine ⟨⟨p1, hp1, (hr p1 hp1).2 (.inl pp1), ep1⟩, fun x hx rx => ((hr x hx).1 rx).elim (p2 x hx) (fun qx => ?_)⟩
    have := r2 x hx qx; omega
 refine ⟨⟨?_, ?_, fun h0 => absurd h0 hR, fun _ => hmn, fun _ => hmx⟩, hR⟩
 ·rw [jc, c1, k1, <- e1]; unfold wrap64; omega
 ·rw [js, c2, k2, e2]; unfold wrap64; omega
theorem stand_isC {L : LV} {wd f ser a : Int} {ns : List Nm} (hl : (ns.length : Int) < 9223372036854775808) : ∀ j : Nat,
  (∀ i : Nat, i < j -> (∀ v, getL L ⟨f, ser, a + i⟩ = some v -> IsC (fun x : Nm => x.ser = ser /\ x.tm / wd = a + i) ns v.cl /\ cntP (fun x : Nm => x.ser = ser /\ x.tm / wd = a + i) ns ≠ 0) /\ (getL L ⟨f, ser, a + i⟩ = none -> ∀ x ∈ ns, ¬ (x.ser = ser /\ x.tm / wd = a + i))) ->
  IsC (fun x : Nm => x.ser = ser /\ a <= x.tm / wd /\ x.tm / wd < a + j) ns (zcd (zdw L f ser a j)) /\ (zdw L f ser a j = [] ↔ cntP (fun x : Nm => x.ser = ser /\ a <= x.tm / wd /\ x.tm / wd < a + j) ns = 0)
 | 0, _ => by
  have h0 : ∀ x ∈ ns, ¬ (x.ser = ser /\ a <= x.tm / wd /\ x.tm / wd < a + (0 : Nat)) := fun x _ ⟨_, h1, h2⟩ => by
   have : ((0 : Nat) : Int) = 0 := rfl
   omega
  exact ⟨IsC.zero h0, by simp only [zdw, List.range_zero, List.filterMap_nil, true_iff]; exact cntP_zero.2 h0⟩
 | j + 1, h => by
  obtain ⟨k1, k2⟩ := stand_isC hl j (fun i hi => h i (by omega))
  obtain ⟨e1, e2⟩ := h j (by omega)
  have hcast : ((j + 1 : Nat) : Int) = (j : Int) + 1 := by omega
  rw [standT_succ]
  cases hg : getL L ⟨f, ser, a + j⟩ with
  | none =>
   have hno := e2 hg
   have hc : ∀ x ∈ ns, (x.ser = ser /\ a <= x.tm / wd /\ x.tm / wd < a + j) ↔ (x.ser = ser /\ a <= x.tm / wd /\ x.tm / wd < a + (j + 1 : Nat)) := fun x hx => by
    have := hno x hx
    constructor
    ·rintro ⟨h1, h2, h3⟩; exact ⟨h1, h2, by omega⟩
    ·rintro ⟨h1, h2, h3⟩
     refine ⟨h1, h2, ?_⟩
     have : x.tm / wd ≠ a + j := fun e => this ⟨h1, e⟩
     omega
   simp only [List.append_nil]
   exact ⟨k1.congr hc, by rw [k2, (cntP_congr hc).1]⟩
  | some v =>
   obtain ⟨v1, v2⟩ := e1 v hg
   obtain ⟨r1, r2⟩ := IsC.join (R := fun x : Nm => x.ser = ser /\ a <= x.tm / wd /\ x.tm / wd < a + (j + 1 : Nat)) k1 k2 v1 v2 (fun x hx => by
    constructor
    ·rintro ⟨h1, h2, h3⟩
     by_cases he : x.tm / wd = a + j
     ·exact .inr ⟨h1, he⟩
     ·exact .inl ⟨h1, h2, by omega⟩
    ·rintro (⟨h1, h2, h3⟩ | ⟨h1, h2⟩)
     ·exact ⟨h1, h2, by omega⟩
     ·exact ⟨h1, by omega, by omega⟩) (fun x hx ⟨⟨_, _, h1⟩, _, h2⟩ => by omega) hl
   exact ⟨r1, by simp only [List.append_eq_nil_iff, List.cons_ne_nil, and_false, false_iff]; exact r2⟩
end Go.Proofs.YtpbimdkclnekeaaGreat

namespace Go.Proofs.YtpbimdkclnekeaaGreat
open Value (int)
open IntKind (i64)
open Go.RowKit Go.Maps Go.Shelf
open Go.ChangeMaps (setBlock)
set_option linter.unusedVariables false
theorem del_live {X : World} {lb : Nat} {L : LV} (h : zbs liveM X lb L) {k : Sg} (hk : k.wf) (ty : TypeId) :
  ∃ o, (Builtin.delete_ #[135, 137] ty #[.map (some lb), .agg #[int i64 k.t, int i64 k.ser, int i64 k.win]]).run Tryz.prog X = .ok (.tuple #[]) (setBlock X lb o) /\ zbs liveM (setBlock X lb o) lb (zby L k) /\ zaj (fun k => k = lb) X (setBlock X lb o) := by
 obtain ⟨es, cl, hb, he⟩ := h
 obtain ⟨es', h1, h2, h3⟩ := run_delM live_ok hb he hk ty
 exact ⟨.map es' cl, h1, ⟨es', cl, zcv (zaa hb) _, h2⟩, zdr _⟩
theorem zcp.putLive {w w' : World} {s : Nat} {c : Cf} {tv : Value} {lb gb : Nat} {Gl : List (Sg × Unit)} {L L' : LV} (h : zcp w s c tv lb gb Gl L) (hm : zbs liveM w' lb L') (hk : zaj (fun k => k = lb) w w') : zcp w' s c tv lb gb Gl L' := by
 have ne_cells : ∀ {k : Nat} {cs : Array Value} {t : TypeId} {fr : Nat × Nat}, w.heap[k]? = some (.cells cs t fr) -> ¬ k = lb := fun hk e => by
  obtain ⟨es, cl, hb, _⟩ := h.live; rw [e, hb] at hk; cases hk
 refine ⟨hk.heap h.head (ne_cells h.head), zah h.trow hk (fun k hk => ?_), live_map.2 hm, h.gone.kept hk h.apart, h.apart⟩
 obtain ⟨cur, hcur⟩ := zbv h.trow hk
 exact ne_cells hcur
theorem zcp.putGone {w w' : World} {s : Nat} {c : Cf} {tv : Value} {lb gb : Nat} {Gl Gl' : List (Sg × Unit)} {L : LV} (h : zcp w s c tv lb gb Gl L) (hm : zbs goneM w' gb Gl') (hk : zaj (fun k => k = gb) w w') : zcp w' s c tv lb gb Gl' L := by
 have ne_cells : ∀ {k : Nat} {cs : Array Value} {t : TypeId} {fr : Nat × Nat}, w.heap[k]? = some (.cells cs t fr) -> ¬ k = gb := fun hk e => by
  obtain ⟨es, cl, hb, _⟩ := h.gone; rw [e, hb] at hk; cases hk
 refine ⟨hk.heap h.head (ne_cells h.head), zah h.trow hk (fun k hk => ?_), h.live.kept hk (fun e => h.apart e.symm), hm, h.apart⟩
 obtain ⟨cur, hcur⟩ := zbv h.trow hk
 exact ne_cells hcur
set_option maxRecDepth 8000 in
set_option maxHeartbeats 4000000 in
theorem reclaim_any {w : World} {s : Nat} {c : Cf} {tv : Value} {lb gb : Nat} {Gl : List (Sg × Unit)} {L : LV} (h : zcp w s c tv lb gb Gl L) (k : Sg) (hk : k.wf) (hlen : Gl.length <= 1000000000) :
  Calls Tryz.prog 93 #[.pointer (some ⟨s, 0, none⟩), .agg #[int i64 k.t, int i64 k.ser, int i64 k.win]] w fun e w' => e = .returned (.tuple #[]) /\ zcp w' s c tv lb gb (zdz Gl k ()) (zby L k) /\ zaj (fun k => k = lb \/ k = gb) w w' := by
 have hsl := h.lt
 obtain ⟨-, -, -, -, -, -, -, c7, c8⟩ := h.cells
 have hba : Below w.heap.size w (w.alloc (.cells #[int i64 k.t, int i64 k.ser, int i64 k.win] 137)) := (Below.refl _ _).alloc (Nat.le_refl _) _
 have q0 := zag w (.cells #[int i64 k.t, int i64 k.ser, int i64 k.win] 137)
 have hX := h.later hba
 have hlb := hX.live.lt
 have hgb := hX.gone.lt
 have hfl := h.foot_lt
 have x7 := (hba.cell (p := ⟨s, 7, none⟩) hsl).trans c7
 have x8 := (hba.cell (p := ⟨s, 8, none⟩) hsl).trans c8
 have hsz : s < (w.alloc (.cells #[int i64 k.t, int i64 k.ser, int i64 k.win] 137)).heap.size := hX.lt
 have HBA := zac hba
 obtain ⟨X, hXe⟩ : ∃ X, (w.alloc (.cells #[int i64 k.t, int i64 k.ser, int i64 k.win] 137)) = X := ⟨_, rfl⟩
 have HXE := zac hXe
 rw [hXe] at q0 hX hlb hgb x7 x8 hsz HBA
 have hXd : Below X.heap.size X X.drew := (Below.refl _ _).drew
 obtain ⟨o, hrun, hm1, hk1⟩ := del_live (X := X.drew) (live_map.1 (hX.later hXd).live) hk 0
 obtain ⟨Y, hYe⟩ : ∃ Y, setBlock X.drew lb o = Y := ⟨_, rfl⟩
 rw [hYe] at hrun hm1 hk1
 have hY := (hX.later hXd).putLive hm1 hk1
 have hYd : Below Y.heap.size Y Y.drew := (Below.refl _ _).drew
 obtain ⟨o2, hrun2, hm2, hk2, _⟩ := mapUp (X := Y.drew) (hY.later hYd).gone (by simp only [maxLen]; omega) hk
 obtain ⟨Z, hZe⟩ : ∃ Z, setBlock Y.drew gb o2 = Z := ⟨_, rfl⟩
 rw [hZe] at hrun2 hm2 hk2
 have hZ := (hY.later hYd).putGone hm2 hk2
 have hs1 : s ≠ lb := fun e => by obtain ⟨es, cl, hb, _⟩ := hX.live; have := hX.head; rw [e, hb] at this; cases this
 have hq1 : w.heap.size ≠ lb := fun e => by have := hfl lb (.inr (.inr (.inl rfl))); omega
 have qz := zaa q0
 have kx0 : X.cell? ⟨w.heap.size, 0, none⟩ = some (int i64 k.t) := by rw [zab q0]; rfl
 have kx1 : X.cell? ⟨w.heap.size, 1, none⟩ = some (int i64 k.ser) := by rw [zab q0]; rfl
 have kx2 : X.cell? ⟨w.heap.size, 2, none⟩ = some (int i64 k.win) := by rw [zab q0]; rfl
 have ky0 : Y.cell? ⟨w.heap.size, 0, none⟩ = some (int i64 k.t) := (zbc (i := 0) hk1 hq1 qz).trans kx0
 have ky1 : Y.cell? ⟨w.heap.size, 1, none⟩ = some (int i64 k.ser) := (zbc (i := 1) hk1 hq1 qz).trans kx1
 have ky2 : Y.cell? ⟨w.heap.size, 2, none⟩ = some (int i64 k.win) := (zbc (i := 2) hk1 hq1 qz).trans kx2
 have y8 : Y.cell? ⟨s, 8, none⟩ = some (.map (some gb)) := (zbc (i := 8) hk1 hs1 hsz).trans x8
 have HEND : Hid (zcp Z s c tv lb gb (zdz Gl k ()) (zby L k) /\ zaj (fun k => k = lb \/ k = gb) w Z) :=
  ⟨hZ, ((((zaj.of_below (f := fun k => k = lb \/ k = gb) (ud HBA)).drew).trans (hk1.mono (fun k _ e => .inl e)) (fun _ _ e => e)).drew).trans (hk2.mono (fun k _ e => .inr e)) (fun _ _ e => e)⟩
 have hsY : s < Y.heap.size := Nat.lt_of_lt_of_le hsz hk1.size
 have hqY : w.heap.size < Y.heap.size := Nat.lt_of_lt_of_le qz hk1.size
 have HYE := zac hYe
 have HZE := zac hZe
 clear h hX hY hZ hm1 hm2 hk1 hk2 hfl hba q0 hXe hYe hZe c7 c8 HBA hXd hYd
 go_enter Tryz.func93, Tryz.ntmps93
 go_wp2_with fail
 rw [ud HXE]
 go_region
 go_wp2_with fail
 go_region
 go_wp2_with fail
 go_end0
 exact ⟨rfl, ud HEND⟩
set_option maxRecDepth 8000 in
set_option maxHeartbeats 4000000 in
theorem publish_any {w : World} {s : Nat} {c : Cf} {tv : Value} {lb gb : Nat} {Gl : List (Sg × Unit)} {L : LV} (h : zcp w s c tv lb gb Gl L) (hc : c.ok) (k : Nat) (hk : k < c.n) (ser win : Int) (hser : zdg ser) (hwn : 0 <= win /\ win <= 100000) (hlen : L.length <= 1000000) :
  Calls Tryz.prog 92 #[.pointer (some ⟨s, 0, none⟩), .agg #[int i64 k, int i64 ser, int i64 win]] w fun e w' => e = .returned (.tuple #[]) /\ zcp w' s c tv lb gb Gl (zeg L ⟨k, ser, win⟩ ⟨3, zcd (zcf c L ser win k)⟩) /\ zaj (fun k => k = lb) w w' := by
 have hsl := h.lt
 obtain ⟨-, -, -, -, -, -, -, c7, -⟩ := h.cells
 have hn4 := hc.n4
 have hkw : (⟨(k : Int), ser, win⟩ : Sg).wf := ⟨by unfold zdg; dsimp only; omega, hser, by unfold zdg; dsimp only; omega⟩
 have hba : Below w.heap.size w (w.alloc (.cells #[int i64 k, int i64 ser, int i64 win] 137)) := (Below.refl _ _).alloc (Nat.le_refl _) _
 have q0 := zag w (.cells #[int i64 k, int i64 ser, int i64 win] 137)
 have hX := h.later hba
 have hfl := h.foot_lt
 have HST := fun W hW => zac (stands_any (h.later (w' := W) hW) hc k hk ser win hser hwn)
 have hzl : (zcf c L ser win k).length <= 1000 := by have := standT_len L (c.F k) ser (win * zcx c k) (zcx c k).toNat; have := many_bounds hc hk; show (zdw L (c.F k) ser (win * zcx c k) (zcx c k).toNat).length <= 1000; omega
 have HJ := fun ad b cap ha W hb hcc => zac (join_any ad b cap (zcf c L ser win k) ha hzl W hb hcc)
 have x7 := (hba.cell (p := ⟨s, 7, none⟩) hsl).trans c7
 have kx0 : (w.alloc (.cells #[int i64 k, int i64 ser, int i64 win] 137)).cell? ⟨w.heap.size, 0, none⟩ = some (int i64 k) := by rw [zab q0]; rfl
 have kx1 : (w.alloc (.cells #[int i64 k, int i64 ser, int i64 win] 137)).cell? ⟨w.heap.size, 1, none⟩ = some (int i64 ser) := by rw [zab q0]; rfl
 have kx2 : (w.alloc (.cells #[int i64 k, int i64 ser, int i64 win] 137)).cell? ⟨w.heap.size, 2, none⟩ = some (int i64 win) := by rw [zab q0]; rfl
 generalize zcf c L ser win k = zs at *
 obtain ⟨jc, hjc⟩ : ∃ jc, zcd zs = jc := ⟨_, rfl⟩
 unfold clV at HJ
 rw [hjc] at HJ ⊢
 have hne1 : ¬ s = lb := fun e => by
  obtain ⟨es, cl, hb, _⟩ := h.live
  have hh := h.head
  rw [e, hb] at hh; cases hh
 have hne0 : ¬ w.heap.size = lb := fun e => by have := hfl lb (.inr (.inr (.inl rfl))); omega
 have HBA := zac hba
 have HX := zac hX
 have HKW := zac hkw
 have qz := zaa q0
 have hsz := hX.lt
 have hroom2 : L.length < maxLen := by simp only [maxLen]; omega
 have p0 := kx0
 have p1 := kx1
 have p2 := kx2
 have p3 := x7
 clear h hba q0 hX hkw hfl kx0 kx1 kx2 x7 c7
 go_enter Tryz.func92, Tryz.ntmps92
 go_wp2_with fail
 generalize (w.alloc (.cells #[int i64 k, int i64 ser, int i64 win] 137)) = X at *
 have HST0 := HST X (ud HBA)
 have HST1 := HST X.drew (ud HBA).drew
 clear HST
 go_region_held3 (fun w' => w'.cell? ⟨w.heap.size, 0, none⟩ = some (int i64 k) /\ w'.cell? ⟨w.heap.size, 1, none⟩ = some (int i64 ser) /\ w'.cell? ⟨w.heap.size, 2, none⟩ = some (int i64 win) /\ w'.cell? ⟨s, 7, none⟩ = some (.map (some lb))) (go_keep) (first
  | (go_at_call 142; (first | refine (ud HST0).mono ?_ | refine (ud HST1).mono ?_); rintro e V ⟨ad, g, cap, rfl, ha, hg, hcat, hbV0⟩; have hbV : Below X.heap.size X V := ⟨hbV0.os, hbV0.tape, hbV0.output, hbV0.size, hbV0.block⟩; clear hbV0; have v0 : V.cell? ⟨w.heap.size, 0, none⟩ = some (int i64 k) := (hbV.cell (p := ⟨w.heap.size, 0, none⟩) qz).trans p0; have v1 : V.cell? ⟨w.heap.size, 1, none⟩ = some (int i64 ser) := (hbV.cell (p := ⟨w.heap.size, 1, none⟩) qz).trans p1; have v2 : V.cell? ⟨w.heap.size, 2, none⟩ = some (int i64 win) := (hbV.cell (p := ⟨w.heap.size, 2, none⟩) qz).trans p2; have v3 : V.cell? ⟨s, 7, none⟩ = some (.map (some lb)) := (hbV.cell (p := ⟨s, 7, none⟩) hsz).trans p3; have qzV := Nat.lt_of_lt_of_le qz hbV.size; have hszV := Nat.lt_of_lt_of_le hsz hbV.size; have HJ0 := HJ ad g cap ha V hg hcat; have HJ1 := HJ ad g cap ha V.drew hg hcat; have HBV := zac hbV; clear hbV ha hg hcat HJ)
  | (go_at_call 141; (first | refine (ud HJ0).mono ?_ | refine (ud HJ1).mono ?_); rintro e J ⟨rfl, hbJ0⟩; have hbJ : Below V.heap.size V J := ⟨hbJ0.os, hbJ0.tape, hbJ0.output, hbJ0.size, hbJ0.block⟩; clear hbJ0; have j0 : J.cell? ⟨w.heap.size, 0, none⟩ = some (int i64 k) := (hbJ.cell (p := ⟨w.heap.size, 0, none⟩) qzV).trans v0; have j1 : J.cell? ⟨w.heap.size, 1, none⟩ = some (int i64 ser) := (hbJ.cell (p := ⟨w.heap.size, 1, none⟩) qzV).trans v1; have j2 : J.cell? ⟨w.heap.size, 2, none⟩ = some (int i64 win) := (hbJ.cell (p := ⟨w.heap.size, 2, none⟩) qzV).trans v2; have j3 : J.cell? ⟨s, 7, none⟩ = some (.map (some lb)) := (hbJ.cell (p := ⟨s, 7, none⟩) hszV).trans v3; have qzJ := Nat.lt_of_lt_of_le qzV hbJ.size; have hszJ := Nat.lt_of_lt_of_le hszV hbJ.size; have hXJ := (ud HBV).trans (hbJ.mono (ud HBV).size); obtain ⟨o, hrun, hset, hkp, hoc⟩ := run_store2 ((ud HX).later hXJ) hroom2 (ud HKW) ⟨3, jc⟩; dsimp only at hrun; obtain ⟨U, hU⟩ : ∃ U, setBlock J lb o = U := ⟨_, rfl⟩; rw [hU] at hrun hset hkp; have u0 : U.cell? ⟨w.heap.size, 0, none⟩ = some (int i64 k) := (zbc (i := 0) hkp hne0 qzJ).trans j0; have u1 : U.cell? ⟨w.heap.size, 1, none⟩ = some (int i64 ser) := (zbc (i := 1) hkp hne0 qzJ).trans j1; have u2 : U.cell? ⟨w.heap.size, 2, none⟩ = some (int i64 win) := (zbc (i := 2) hkp hne0 qzJ).trans j2; have u3 : U.cell? ⟨s, 7, none⟩ = some (.map (some lb)) := (zbc (i := 7) hkp hne1 hszJ).trans j3; have HSET := zac hset; have HKU := zac ((zaj.of_below (f := fun k => k = lb) ((ud HBA).trans (hXJ.mono (ud HBA).size))).trans hkp (fun _ _ h => h)); clear hset hkp hbJ hU hoc hXJ))
 all_goals go_wp2_with fail
 all_goals go_end0
 all_goals exact ⟨rfl, ud HSET, ud HKU⟩
def restN (k : Nat) : Nat := 2 ^ min k 5
theorem restN_bound (k : Nat) : 1 <= restN k /\ restN k <= 32 := by
 unfold restN
 have h : min k 5 <= 5 := Nat.min_le_right _ _
 generalize min k 5 = j at *
 match j, h with
 | 0, _ => simp
 | 1, _ => simp
 | 2, _ => simp
 | 3, _ => simp
 | 4, _ => simp
 | 5, _ => simp
theorem pow_lt {k : Nat} (h : k <= 5) : ((2 : Int) ^ k < 32 ↔ k < 5) := by
 match k, h with
 | 0, _ => simp
 | 1, _ => simp
 | 2, _ => simp
 | 3, _ => simp
 | 4, _ => simp
 | 5, _ => simp
theorem pow_bd {k : Nat} (h : k <= 5) : 1 <= (2 : Int) ^ k /\ (2 : Int) ^ k <= 32 := by
 match k, h with
 | 0, _ => simp
 | 1, _ => simp
 | 2, _ => simp
 | 3, _ => simp
 | 4, _ => simp
 | 5, _ => simp
set_option maxHeartbeats 1000000 in
theorem rest_any (tries : Nat) (ht : tries <= 1000000000000) (w : World) :
  Calls Tryz.prog 97 #[int i64 tries] w fun e w' => e = .returned (int i64 (restN tries)) /\ w' = w := by
 go_enter Tryz.func97, Tryz.ntmps97
 go_wp2_with fail
 go_loopw [3, 4] (fun x y wr => ∃ (k : Nat), k <= 5 /\ k <= tries /\ x = int i64 ((2 : Int) ^ k) /\ y = int i64 k /\ wr = w) (fun _ y _ => 5 - (intOf y).toNat)
 case atStart => exact ⟨0, by omega, Nat.zero_le _, by simp, rfl, rfl⟩
 case round =>
  obtain ⟨k, hk5, hkt, rfl, rfl, rfl⟩ := hrel
  obtain ⟨p1, p2⟩ := pow_bd hk5
  by_cases h1 : k < tries
  ·have h1' : (k : Int) < tries := by omega
   by_cases h2 : k < 5
   ·have h2' : (2 : Int) ^ k < 32 := (pow_lt hk5).2 h2
    have HP : Hid ((2 : Int) ^ k * 2 = 2 ^ (k + 1)) := by show (2 : Int) ^ k * 2 = 2 ^ (k + 1); rw [Int.pow_succ]
    obtain ⟨v, hv⟩ : ∃ v, (2 : Int) ^ k = v := ⟨_, rfl⟩
    rw [hv] at HP h2' p1 p2 ⊢
    clear hv
    go_wp2_with fail
    go_roundw
    case rel => exact ⟨k + 1, by omega, by omega, by rw [<- ud HP], by go_num, trivial⟩
    case measure => simp [intOf]; omega
   ·obtain rfl : k = 5 := by omega
    go_wp2_with fail
    go_ret
    refine ⟨?_, rfl⟩
    unfold restN
    rw [show min tries 5 = 5 by omega]
    rfl
  ·obtain rfl : k = tries := by omega
   go_wp2_with fail
   go_ret
   refine ⟨?_, rfl⟩
   unfold restN
   rw [show min k 5 = k by omega]
   simp
theorem fld_lse (x : Lse) (W : World) : (Instr.field 149 (.agg #[int i64 x.kd, int i64 x.s.t, int i64 x.s.ser, int i64 x.s.win, int i64 x.slot, int i64 x.til]) 0).run Tryz.prog W = .ok (.agg #[int i64 x.kd, int i64 x.s.t, int i64 x.s.ser, int i64 x.s.win]) W := by kernel_rfl
theorem look_lse {X : World} {qb : Nat} {QL : List (Tok × Lse)} (h : zbs zch X qb QL) {t : Tok} (ht : t.wf) {g : Lse} (hg : zbq QL t = some g) : (Instr.lookup 153 (.map (some qb)) (.agg #[int i64 t.ep, int i64 t.num]) false).run Tryz.prog X = .ok (.agg #[int i64 g.kd, int i64 g.s.t, int i64 g.s.ser, int i64 g.s.win, int i64 g.slot, int i64 g.til]) X := by
 have h1 := run_lookM zfa false h ht
 rw [hg] at h1; exact h1
theorem look_tsk {X : World} {tb : Nat} {TL : List (Jk × Tsk)} (h : zbs zcr X tb TL) {k : Jk} (hk : k.wf) {x : Tsk} (hx : zbq TL k = some x) : (Instr.lookup 154 (.map (some tb)) (.agg #[int i64 k.kd, int i64 k.s.t, int i64 k.s.ser, int i64 k.s.win]) false).run Tryz.prog X = .ok (.agg #[.iface x.jt (.agg #[int i64 x.s.t, int i64 x.s.ser, int i64 x.s.win]), int i64 x.since, int i64 x.tries, int i64 x.rest]) X := by
 have h1 := run_lookM zfe false h hk
 rw [hx] at h1; exact h1
def Tsk.failed (x : Tsk) (now : Int) : Tsk := ⟨x.rl, x.s, x.since, x.tries + 1, now + restN (x.tries + 1).toNat⟩
theorem store_tsk {X : World} {tb : Nat} {TL : List (Jk × Tsk)} (h : zbs zcr X tb TL) (hr : TL.length < maxLen) {k : Jk} (hk : k.wf) (x : Tsk) (tr re : Int) :
  ∃ o, (Instr.mapUpdate 154 (.map (some tb)) (.agg #[int i64 k.kd, int i64 k.s.t, int i64 k.s.ser, int i64 k.s.win]) (.agg #[.iface x.jt (.agg #[int i64 x.s.t, int i64 x.s.ser, int i64 x.s.win]), int i64 x.since, int i64 tr, int i64 re])).run Tryz.prog X = .ok () (setBlock X tb o) /\ zbs zcr (setBlock X tb o) tb (zdz TL k ⟨x.rl, x.s, x.since, tr, re⟩) /\ zaj (fun k => k = tb) X (setBlock X tb o) /\ o.isCells = false :=
 run_storeM zfe h hr hk (⟨x.rl, x.s, x.since, tr, re⟩ : Tsk)
theorem del_lse {X : World} {qb : Nat} {QL : List (Tok × Lse)} (h : zbs zch X qb QL) {t : Tok} (ht : t.wf) (ty : TypeId) :
  ∃ o, (Builtin.delete_ #[153, 49] ty #[.map (some qb), .agg #[int i64 t.ep, int i64 t.num]]).run Tryz.prog X = .ok (.tuple #[]) (setBlock X qb o) /\ zbs zch (setBlock X qb o) qb (zby QL t) /\ zaj (fun k => k = qb) X (setBlock X qb o) := by
 obtain ⟨es, cl, hb, he⟩ := h
 obtain ⟨es', h1, h2, h3⟩ := run_delM zfa hb he ht ty
 exact ⟨.map es' cl, h1, ⟨es', cl, zcv (zaa hb) _, h2⟩, zdr _⟩
theorem del_lse2 {X : World} {qb : Nat} {QL : List (Tok × Lse)} {es : Array MapEntry} {cl : Nat} (hb : X.heap[qb]? = some (.map es cl)) (he : MEnts zch es cl QL) {t : Tok} (ht : t.wf) (ty : TypeId) :
  ∃ es', (Builtin.delete_ #[153, 49] ty #[.map (some qb), .agg #[int i64 t.ep, int i64 t.num]]).run Tryz.prog X = .ok (.tuple #[]) (setBlock X qb (.map es' cl)) /\ (setBlock X qb (.map es' cl)).heap[qb]? = some (.map es' cl) /\ MEnts zch es' cl (zby QL t) /\ (∀ e, e ∈ es'.toList ↔ e ∈ es.toList /\ e.key ≠ zfb t) /\ zaj (fun k => k = qb) X (setBlock X qb (.map es' cl)) := by
 obtain ⟨es', h1, h2, h3⟩ := run_delM zfa hb he ht ty
 exact ⟨es', h1, zcv (zaa hb) _, h2, h3, zdr _⟩
set_option maxRecDepth 8000 in
set_option maxHeartbeats 4000000 in
theorem fail_any {w : World} {b : Nat} {c : Cf} {tv : Value} {ep num : Int} {tb qb : Nat} {TL : List (Jk × Tsk)} {QL : List (Tok × Lse)} (h : zav w b c tv ep num tb qb TL QL) (t : Tok) (ht : t.wf) {g : Lse} (hg : zbq QL t = some g) {x : Tsk} (hkw : (⟨g.kd, g.s⟩ : Jk).wf) (hx : zbq TL ⟨g.kd, g.s⟩ = some x) (now : Int) (hnow : 0 <= now /\ now <= 100000) (htr : 0 <= x.tries /\ x.tries <= 1000000000) (hlen : TL.length <= 100000) {es : Array MapEntry} {cl : Nat} (hqe : w.heap[qb]? = some (.map es cl)) (hqm : MEnts zch es cl QL) :
  Calls Tryz.prog 45 #[.pointer (some ⟨b, 0, none⟩), .agg #[int i64 t.ep, int i64 t.num], int i64 now] w fun e w' => e = .returned (.tuple #[]) /\ zav w' b c tv ep num tb qb (zdz TL ⟨g.kd, g.s⟩ (x.failed now)) (zby QL t) /\ zaj (fun k => k = tb \/ k = qb) w w' /\ ∃ es', w'.heap[qb]? = some (.map es' cl) /\ MEnts zch es' cl (zby QL t) /\ ∀ e, e ∈ es'.toList ↔ e ∈ es.toList /\ e.key ≠ zfb t := by
 have hbl := h.lt
 have y0 := zag w (.cells #[int i64 t.ep, int i64 t.num] 49)
 have yz := zbm w (.cells #[int i64 t.ep, int i64 t.num] 49)
 have hb0 : Below w.heap.size w (w.alloc (.cells #[int i64 t.ep, int i64 t.num] 49)) := (Below.refl _ _).alloc (Nat.le_refl _) _
 have k0 : (w.alloc (.cells #[int i64 t.ep, int i64 t.num] 49)).cell? ⟨w.heap.size, 0, none⟩ = some (int i64 t.ep) := by rw [zab y0]; rfl
 have k1 : (w.alloc (.cells #[int i64 t.ep, int i64 t.num] 49)).cell? ⟨w.heap.size, 1, none⟩ = some (int i64 t.num) := by rw [zab y0]; rfl
 have x10 := (h.later hb0).cell10
 have HL := fun X hX => look_lse (h.leases.later (w' := X) hX) ht hg
 have g0 := HL _ hb0
 have g1 := HL _ hb0.drew
 have g2 := fun o => HL _ (hb0.alloc hb0.size o)
 have g3 := fun o => HL _ (hb0.alloc hb0.size o).drew
 have g4 := fun o => HL _ (hb0.drew.alloc hb0.drew.size o)
 have fl := fld_lse g
 have hkz : w.heap.size < (w.alloc (.cells #[int i64 t.ep, int i64 t.num] 49)).heap.size := by rw [yz]; omega
 have hblX : b < (w.alloc (.cells #[int i64 t.ep, int i64 t.num] 49)).heap.size := by rw [yz]; omega
 have HH := zac h
 have Y0 := zac y0
 have HB0 := zac hb0
 have HT := zac ht
 have HKW := zac hkw
 have HG := zac hg
 have HX := zac hx
 have HQE := zac hqe
 have HQM := zac hqm
 clear h y0 yz hb0 HL ht hkw hg hx hqe hqm
 go_enter Tryz.func45, Tryz.ntmps45
 go_wp2_with fail
 generalize (w.alloc (.cells #[int i64 t.ep, int i64 t.num] 49)) = X at *
 go_region
 have hbY : Below X.heap.size X (X.alloc (.cells #[int i64 g.kd, int i64 g.s.t, int i64 g.s.ser, int i64 g.s.win] 147)).drew := ((Below.refl _ _).alloc (Nat.le_refl _) _).drew
 have hky : (X.alloc (.cells #[int i64 g.kd, int i64 g.s.t, int i64 g.s.ser, int i64 g.s.win] 147)).drew.heap[X.heap.size]? = some (.cells #[int i64 g.kd, int i64 g.s.t, int i64 g.s.ser, int i64 g.s.win] 147 (0, 0)) := zag _ _
 have hyz : (X.alloc (.cells #[int i64 g.kd, int i64 g.s.t, int i64 g.s.ser, int i64 g.s.win] 147)).drew.heap.size = X.heap.size + 1 := zbm _ _
 generalize (X.alloc (.cells #[int i64 g.kd, int i64 g.s.t, int i64 g.s.ser, int i64 g.s.win] 147)).drew = Y at *
 have hwY : Below w.heap.size w Y := (ud HB0).trans (hbY.mono (ud HB0).size)
 have y9 := ((ud HH).later hwY).cell9
 have ky0 : Y.cell? ⟨X.heap.size, 0, none⟩ = some (int i64 g.kd) := by rw [zab hky]; rfl
 have ky1 : Y.cell? ⟨X.heap.size, 1, none⟩ = some (int i64 g.s.t) := by rw [zab hky]; rfl
 have ky2 : Y.cell? ⟨X.heap.size, 2, none⟩ = some (int i64 g.s.ser) := by rw [zab hky]; rfl
 have ky3 : Y.cell? ⟨X.heap.size, 3, none⟩ = some (int i64 g.s.win) := by rw [zab hky]; rfl
 have HLT := fun V hV => look_tsk (k := ⟨g.kd, g.s⟩) ((ud HH).tasks.later (w' := V) hV) (ud HKW) (ud HX)
 dsimp only at HLT
 clear g0 g1 g2 g3 g4 fl k0 k1 x10
 have g0 := HLT Y hwY
 have g1 := HLT Y.drew hwY.drew
 have g2 := fun o => HLT (Y.alloc o) (hwY.alloc hwY.size o)
 have g3 := fun o => HLT (Y.alloc o).drew (hwY.alloc hwY.size o).drew
 have g4 := fun o => HLT (Y.drew.alloc o) (hwY.drew.alloc hwY.drew.size o)
 have hbY2 : b < Y.heap.size := by omega
 have hkY2 : X.heap.size < Y.heap.size := by omega
 have HKYB := zac hky
 have HWY := zac hwY
 have HYZ := zac hyz
 have HYK := zac hbY
 clear hky hwY hyz hbY HLT
 go_wp2_with fail
 go_region
 have hbZ : Below Y.heap.size Y (Y.alloc (.cells #[.iface x.jt (.agg #[int i64 x.s.t, int i64 x.s.ser, int i64 x.s.win]), int i64 x.since, int i64 x.tries, int i64 x.rest] 162)).drew := ((Below.refl _ _).alloc (Nat.le_refl _) _).drew
 have htz : (Y.alloc (.cells #[.iface x.jt (.agg #[int i64 x.s.t, int i64 x.s.ser, int i64 x.s.win]), int i64 x.since, int i64 x.tries, int i64 x.rest] 162)).drew.heap[Y.heap.size]? = some (.cells #[.iface x.jt (.agg #[int i64 x.s.t, int i64 x.s.ser, int i64 x.s.win]), int i64 x.since, int i64 x.tries, int i64 x.rest] 162 (0, 0)) := zag _ _
 have hzz : (Y.alloc (.cells #[.iface x.jt (.agg #[int i64 x.s.t, int i64 x.s.ser, int i64 x.s.win]), int i64 x.since, int i64 x.tries, int i64 x.rest] 162)).drew.heap.size = Y.heap.size + 1 := zbm _ _
 generalize (Y.alloc (.cells #[.iface x.jt (.agg #[int i64 x.s.t, int i64 x.s.ser, int i64 x.s.win]), int i64 x.since, int i64 x.tries, int i64 x.rest] 162)).drew = Z at *
 have hwZ : Below w.heap.size w Z := (ud HWY).trans (hbZ.mono (ud HWY).size)
 have t0 : Z.cell? ⟨Y.heap.size, 0, none⟩ = some (.iface x.jt (.agg #[int i64 x.s.t, int i64 x.s.ser, int i64 x.s.win])) := by rw [zab htz]; rfl
 have t1 : Z.cell? ⟨Y.heap.size, 1, none⟩ = some (int i64 x.since) := by rw [zab htz]; rfl
 have t2 : Z.cell? ⟨Y.heap.size, 2, none⟩ = some (int i64 x.tries) := by rw [zab htz]; rfl
 have t3 : Z.cell? ⟨Y.heap.size, 3, none⟩ = some (int i64 x.rest) := by rw [zab htz]; rfl
 have tf := fun j => zax htz j
 have hZl := zaa htz
 have hkyz := (hbZ.block X.heap.size hkY2).trans (ud HKYB)
 have HR : ∀ W, Hid (Calls Tryz.prog 97 #[int i64 (x.tries + 1)] W fun e w' => e = .returned (int i64 (restN (x.tries + 1).toNat)) /\ w' = W) := fun W => by
  have := rest_any (x.tries + 1).toNat (by omega) W
  rw [Int.toNat_of_nonneg (by omega)] at this
  exact this
 obtain ⟨q1, q2⟩ := restN_bound (x.tries + 1).toNat
 obtain ⟨rv, hrv⟩ : ∃ rv : Nat, restN (x.tries + 1).toNat = rv := ⟨_, rfl⟩
 rw [hrv] at q1 q2
 simp only [hrv] at HR
 have HRV := zac hrv
 have HTZ := zac htz
 have HWZ := zac hwZ
 have HKZ := zac hkyz
 have HBZ := zac hbZ
 clear g0 g1 g2 g3 g4 ky0 ky1 ky2 ky3 y9 htz hwZ hbZ hkyz hrv
 go_wp2_with (first | (go_at_call 97; refine (ud (HR _)).mono ?_; rintro e Z2 ⟨rfl, rfl⟩))
 have hU : ((Z.setCell ⟨Y.heap.size, 2, none⟩ (int i64 (x.tries + 1))).setCell ⟨Y.heap.size, 3, none⟩ (int i64 (now + rv))).heap[Y.heap.size]? = some (.cells #[.iface x.jt (.agg #[int i64 x.s.t, int i64 x.s.ser, int i64 x.s.win]), int i64 x.since, int i64 (x.tries + 1), int i64 (now + rv)] 162 (0, 0)) := zcu (i := 3) (zcu (i := 2) (ud HTZ) (int i64 (x.tries + 1))) (int i64 (now + rv))
 have hbU : Below Y.heap.size Z ((Z.setCell ⟨Y.heap.size, 2, none⟩ (int i64 (x.tries + 1))).setCell ⟨Y.heap.size, 3, none⟩ (int i64 (now + rv))) := ((Below.refl _ _).setCell (p := ⟨Y.heap.size, 2, none⟩) (Nat.le_refl _) _).setCell (p := ⟨Y.heap.size, 3, none⟩) (Nat.le_refl _) _
 generalize ((Z.setCell ⟨Y.heap.size, 2, none⟩ (int i64 (x.tries + 1))).setCell ⟨Y.heap.size, 3, none⟩ (int i64 (now + rv))) = U at *
 have hwU : Below w.heap.size w U := (ud HWZ).trans (hbU.mono (ud HWY).size)
 have hkU := (hbU.block X.heap.size hkY2).trans (ud HKZ)
 have hyU := (hbU.block w.heap.size (by have := hkz; omega)).trans (((ud HBZ).block w.heap.size (by have := hkz; omega)).trans (((ud HYK).block w.heap.size hkz).trans (ud Y0)))
 have u9 := ((ud HH).later hwU).cell9
 have ku0 : U.cell? ⟨X.heap.size, 0, none⟩ = some (int i64 g.kd) := by rw [zab hkU]; rfl
 have ku1 : U.cell? ⟨X.heap.size, 1, none⟩ = some (int i64 g.s.t) := by rw [zab hkU]; rfl
 have ku2 : U.cell? ⟨X.heap.size, 2, none⟩ = some (int i64 g.s.ser) := by rw [zab hkU]; rfl
 have ku3 : U.cell? ⟨X.heap.size, 3, none⟩ = some (int i64 g.s.win) := by rw [zab hkU]; rfl
 have tu0 : U.cell? ⟨Y.heap.size, 0, none⟩ = some (.iface x.jt (.agg #[int i64 x.s.t, int i64 x.s.ser, int i64 x.s.win])) := by rw [zab hU]; rfl
 have tu1 : U.cell? ⟨Y.heap.size, 1, none⟩ = some (int i64 x.since) := by rw [zab hU]; rfl
 have tu2 : U.cell? ⟨Y.heap.size, 2, none⟩ = some (int i64 (x.tries + 1)) := by rw [zab hU]; rfl
 have tu3 : U.cell? ⟨Y.heap.size, 3, none⟩ = some (int i64 (now + rv)) := by rw [zab hU]; rfl
 have hlU := zaa hU
 have hlK := zaa hkU
 have hlT := zaa hyU
 have hbU2 : b < U.heap.size := Nat.lt_of_lt_of_le hbl hwU.size
 obtain ⟨o, hrun, hm, hk, ho⟩ := store_tsk (X := U.drew) (k := ⟨g.kd, g.s⟩) ((ud HH).tasks.later hwU.drew) (by simp only [maxLen]; omega) (ud HKW) x (x.tries + 1) (now + rv)
 dsimp only at hrun
 have hput := ((ud HH).later hwU.drew).putTasks hm hk
 have hyM := hk.heap (k := w.heap.size) hyU (fun e => by have := (ud HH).foot_lt tb (.inr (.inl rfl)); omega)
 have m10 := hput.cell10
 have tm0 : (setBlock U.drew tb o).cell? ⟨w.heap.size, 0, none⟩ = some (int i64 t.ep) := by rw [zab hyM]; rfl
 have tm1 : (setBlock U.drew tb o).cell? ⟨w.heap.size, 1, none⟩ = some (int i64 t.num) := by rw [zab hyM]; rfl
 have hlM := zaa hyM
 have hbM := hput.lt
 have hqU : (setBlock U.drew tb o).heap[qb]? = some (.map es cl) := hk.heap (k := qb) ((hwU.block qb (zaa (ud HQE))).trans (ud HQE)) (fun e => (ud HH).apart e.symm)
 obtain ⟨es3, hdel3, hq3, hm3, hs3, hk3⟩ := del_lse2 (X := (setBlock U.drew tb o).drew) hqU (ud HQM) (ud HT) 0
 have HP := zac hput
 have HK := zac hk
 have HQ3 := zac hq3
 have HS3 := zac hs3
 have HM3 := zac hm3
 have HK3 := zac hk3
 have HWU := zac hwU
 clear t0 t1 t2 t3 tf hU hbU hkU hyU hwU hm hk hput hyM hm3 hk3 hq3 hs3 hqU
 go_region
 go_wp2_with fail
 generalize setBlock U.drew tb o = M at *
 clear hrun u9 ku0 ku1 ku2 ku3 tu0 tu1 tu2 tu3
 go_region
 go_wp2_with fail
 go_end0
 have hP := ud HP
 have hk3 := ud HK3
 have hkM : zaj (fun k => k = tb \/ k = qb) w M := (zaj.of_below (f := fun k => k = tb \/ k = qb) (ud HWU).drew).trans (ud HK) (fun _ _ e => .inl e)
 refine ⟨rfl, ⟨hk3.heap hP.head (fun e => hP.qb_ne e.symm), ?_, ⟨es3, cl, ud HQ3, ud HM3⟩, hP.apart⟩, ?_, es3, ud HQ3, ud HM3, ud HS3⟩
 ·have := (hP.tasks.later (w' := M.drew) (Below.refl _ _).drew).kept hk3 (fun e => hP.apart e)
  unfold Tsk.failed
  rw [ud HRV]
  exact this
 ·exact (hkM.drew).trans hk3 (fun _ _ e => .inr e)
end Go.Proofs.YtpbimdkclnekeaaGreat
