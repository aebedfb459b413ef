import Derived.Test.YtpbimdkclnekeaaGreatTRef2

namespace Go.Proofs.YtpbimdkclnekeaaGreat
open Value (int)
open IntKind (i64)
open Go.RowKit
set_option linter.unusedVariables false
def Cf.end (c : Cf) (s : Sg) : Int := (s.win + 1) * c.width s.t
def Cf.keep (c : Cf) (t : Int) : Int := if t = -1 then c.ke else c.K t.toNat
theorem Cf.ok.ends {c : Cf} (h : c.ok) {s : Sg} (h1 : -1 <= s.t) (h2 : s.t < c.n) (h3 : 0 <= s.win) (h4 : s.win <= 100000) : 0 <= c.end s /\ c.end s <= 100001000 := by
 obtain ⟨w1, w2⟩ := h.width h1 h2
 unfold Cf.end
 refine ⟨Int.mul_nonneg (by omega) (by omega), ?_⟩
 have : (s.win + 1) * c.width s.t <= (100000 + 1) * 1000 := Int.mul_le_mul (by omega) w2 (by omega) (by omega)
 omega
theorem Cf.ok.keeps {c : Cf} (h : c.ok) {t : Int} (h1 : -1 <= t) (h2 : t < c.n) : 0 <= c.keep t /\ c.keep t <= 1000 := by
 unfold Cf.keep
 split
 ·exact h.ke
 ·exact h.K _ (by omega)
set_option maxHeartbeats 1000000 in
theorem end_any {B : Nat} {w : World} {p : Nat} {m : RM} {tv nv pv gv kv : Value} (h : zbk B w p m tv nv pv gv kv) (hc : m.c.ok) (s : Sg) (ht1 : -1 <= s.t) (ht2 : s.t < m.c.n) (hs1 : 0 <= s.win) (hs2 : s.win <= 100000) :
  Calls Tryz.prog 157 #[.pointer (some ⟨p, 0, none⟩), .agg #[int i64 s.t, int i64 s.ser, int i64 s.win]] w fun e w' => e = .returned (int i64 (m.c.end s)) /\ Below w.heap.size w w' := by
 obtain ⟨a, cap, htv⟩ := zah h.trow
 subst htv
 have hp := h.lt
 have hts := TS.of_owns h.trow
 obtain ⟨c0, c1, c2, c3, c4, c5, c6⟩ := h.conf
 obtain ⟨hw1, hw2⟩ := hc.width ht1 ht2
 obtain ⟨he1, he2⟩ := hc.ends ht1 ht2 hs1 hs2
 have hn4 := hc.n4
 have HW : Hid (zbr m.c.wi m.c.W s.t = m.c.width s.t) := rfl
 have HR : Hid (m.c.end s = (s.win + 1) * m.c.width s.t) := rfl
 rw [ud HR] at he1 he2
 have b1 := zap w (.cells #[int i64 s.t, int i64 s.ser, int i64 s.win] 232)
 have bz := zbd w (.cells #[int i64 s.t, int i64 s.ser, int i64 s.win] 232)
 have hbw : Below w.heap.size w (w.alloc (.cells #[int i64 s.t, int i64 s.ser, int i64 s.win] 232)) := (Below.refl _ _).alloc (Nat.le_refl _) _
 have z2 : (w.alloc (.cells #[int i64 s.t, int i64 s.ser, int i64 s.win] 232)).cell? ⟨w.heap.size, 2, none⟩ = some (int i64 s.win) := by rw [zac b1]; rfl
 have Z2 := zab z2
 have BZ := zab bz
 have hne : Nonempty (zaf (w.heap.size + 1) (w.alloc (.cells #[int i64 s.t, int i64 s.ser, int i64 s.win] 232))) := zaf.some _ _
 have hlc := fun (u : zaf (w.heap.size + 1) (w.alloc (.cells #[int i64 s.t, int i64 s.ser, int i64 s.win] 232))) b o h => u.cell b o h
 clear h b1 bz z2
 go_enter Tryz.func157, Tryz.ntmps157
 go_wp2_with fail
 refine zad (w.heap.size + 1) (by kernel_rfl) (by kernel_rfl) ?_
 repeat (go_big_quiet_step (first | (go_at_call 101; exact Calls.later (by simp) (Width_any _ _ _ _ _ _ _ _ cap m.c.F m.c.W m.c.K s.t ht1 ht2 hn4 _ (hts.below (hbw.trans (Below.mono (Subtype.property _) (by omega))))))))
 refine wpQuiet_nil ?_
 rintro ⟨w1, hb1⟩
 clear hlc hne
 have z2 : w1.cell? ⟨w.heap.size, 2, none⟩ = some (int i64 s.win) := (hb1.cell (p := ⟨w.heap.size, 2, none⟩) (show w.heap.size < w.heap.size + 1 by omega)).trans (ud Z2)
 dsimp only
 rw [ud HW]
 go_wp2_with fail
 go_ret
 exact ⟨ret_int (ud HR).symm, hbw.trans (hb1.mono (by omega))⟩
set_option maxHeartbeats 1000000 in
theorem keep_any {B : Nat} {w : World} {p : Nat} {m : RM} {tv nv pv gv kv : Value} (h : zbk B w p m tv nv pv gv kv) (hc : m.c.ok) (t : Int) (ht1 : -1 <= t) (ht2 : t < m.c.n) :
  Calls Tryz.prog 230 #[.pointer (some ⟨p, 0, none⟩), int i64 t] w fun e w' => e = .returned (int i64 (m.c.keep t)) /\ w' = w := by
 obtain ⟨a, cap, htv⟩ := zah h.trow
 subst htv
 have hp := h.lt
 have hts := TS.of_owns h.trow
 obtain ⟨c0, c1, c2, c3, c4, c5, c6⟩ := h.conf
 have hn4 := hc.n4
 by_cases e : t = -1
 ·subst e
  have HR : Hid (m.c.keep (-1) = m.c.ke) := rfl
  clear h
  go_enter Tryz.func230, Tryz.ntmps230
  go_wp2
  go_ret
  exact ⟨ret_int (ud HR).symm, rfl⟩
 ·obtain ⟨i, rfl⟩ := Int.eq_ofNat_of_zero_le (show 0 <= t by omega)
  have HR : Hid (m.c.keep (i : Int) = m.c.K i) := by show _ = _; unfold Cf.keep; rw [if_neg e]; simp
  obtain ⟨b, off, rfl, hbz, hcc⟩ := hts (by omega)
  obtain ⟨h1, h2, h3⟩ := hcc i (by omega)
  have hne : ((i : Int) == -1) = false := beq_eq_false_iff_ne.2 e
  clear h hcc e
  go_enter Tryz.func230, Tryz.ntmps230
  go_wp2
  go_ret
  exact ⟨ret_int (ud HR).symm, rfl⟩
end Go.Proofs.YtpbimdkclnekeaaGreat
