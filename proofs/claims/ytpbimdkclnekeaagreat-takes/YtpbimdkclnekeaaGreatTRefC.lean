import Derived.Test.YtpbimdkclnekeaaGreatTRef7

namespace Go.Proofs.YtpbimdkclnekeaaGreat
open Value (int)
open IntKind (i64)
open Go.RowKit
set_option linter.unusedVariables false
def sgOk (c : Cf) (s : Sg) : Prop := -1 <= s.t /\ s.t < c.n /\ 0 <= s.win /\ s.win <= 100000
def headRoll (m : RM) (s : Sg) : Bool := !(s.t == -1) && !memB s m.pub && !memB s m.gone && !decide (m.now - m.c.la < m.c.end s)
def zef (m : RM) (s : Sg) : Bool := !memB s m.gone && !(decide (0 <= s.t) && !memB s m.pub) && !decide (m.now < m.c.end s + m.c.keep s.t)
def bars1 (m : RM) (s x : Sg) : Bool := onB m.c s x && decide (0 <= x.t) && !memB x m.pub
def bars2 (m : RM) (s x : Sg) : Bool := onB m.c x s && !memB x m.pub && !memB x m.gone
def zdz (m : RM) (s : Sg) (l : List Sg) : Bool := headRoll m s && l.all (fun x => !bars1 m s x)
def zdk (m : RM) (s : Sg) (l : List Sg) : Bool := zef m s && l.all (fun x => !bars2 m s x)
theorem all_of_pre {p : Sg -> Bool} {l : List Sg} (h : ∀ j x, j < l.length -> l[j]? = some x -> p x = true) : l.all p = true := by
 rw [List.all_eq_true]; intro x hx
 obtain ⟨j, hj⟩ := List.getElem?_of_mem hx
 exact h j x (List.getElem?_eq_some_iff.1 hj).1 hj
theorem all_not {p : Sg -> Bool} {l : List Sg} {i : Nat} {x : Sg} (h : l[i]? = some x) (hp : p x = false) : l.all p = false := by
 rw [Bool.eq_false_iff]; intro hh; rw [List.all_eq_true] at hh
 rw [hh x (List.mem_of_getElem? h)] at hp; cases hp
theorem pre_step {p : Sg -> Bool} {l : List Sg} {i : Nat} {x : Sg} (h : ∀ j y, j < i -> l[j]? = some y -> p y = true) (hx : l[i]? = some x) (hp : p x = true) : ∀ j y, j < i + 1 -> l[j]? = some y -> p y = true := fun j y hj hy => by
 by_cases e : j = i
 ·subst e; rw [hx] at hy; cases hy; exact hp
 ·exact h j y (by omega) hy
set_option maxRecDepth 8000 in
set_option maxHeartbeats 8000000 in
theorem ready1_any {B B2 : Nat} {w : World} {p : Nat} {m : RM} {tv nv pv gv kv : Value} (h : zbk B w p m tv nv pv gv kv) (hc : m.c.ok) (hgl : m.gone.length <= 1000000000000) (hpl : m.pub.length <= 1000000000000) (hnow : 0 <= m.now /\ m.now <= 100000) (s : Sg) (hs : sgOk m.c s) (l : List Sg) (v : Value) (hl : l.length <= 10000000000) (hrow : w.ownsRow B2 232 3 v l.length (l.flatMap sgV)) (hlo : ∀ x ∈ l, sgOk m.c x) :
  Calls Tryz.prog 221 #[.pointer (some ⟨p, 0, none⟩), int i64 1, .agg #[int i64 s.t, int i64 s.ser, int i64 s.win], v] w fun e w' => e = .returned (.bool (zdz m s l)) /\ Below w.heap.size w w' := by
 obtain ⟨hs1, hs2, hs3, hs4⟩ := hs
 obtain ⟨al, cl, hv⟩ := zah hrow
 subst hv
 obtain ⟨ag, cg, hgv⟩ := zah h.grow
 subst hgv
 obtain ⟨ap, cp, hpv⟩ := zah h.prow
 subst hpv
 obtain ⟨hla1, hla2⟩ := hc.la
 obtain ⟨hn1, hn2⟩ := hnow
 obtain ⟨hk1, hk2⟩ := hc.keeps hs1 hs2
 obtain ⟨he1, he2⟩ := hc.ends hs1 hs2 hs3 hs4
 have y0 := zap w (.cells #[int i64 s.t, int i64 s.ser, int i64 s.win] 232)
 have hbw : Below w.heap.size w (w.alloc (.cells #[int i64 s.t, int i64 s.ser, int i64 s.win] 232)) := (Below.refl _ _).alloc (Nat.le_refl _) _
 have hwz := zbd w (.cells #[int i64 s.t, int i64 s.ser, int i64 s.win] 232)
 have H := zab h
 have HROW := zab hrow
 clear h hrow
 go_enter Tryz.func221, Tryz.ntmps221
 go_wp2_with fail
 generalize (w.alloc (.cells #[int i64 s.t, int i64 s.ser, int i64 s.win] 232)) = W at *
 have HRF := zab (fun (u : World) (hu : Below W.heap.size W u) => (ud H).later (hbw.trans (hu.mono hbw.size)))
 have HRW := zab (fun (u : World) (hu : Below W.heap.size W u) => zcc (ud HROW) (hbw.trans (hu.mono hbw.size)))
 have HF : Hid (∀ (u : World), Below W.heap.size W u -> u.cell? ⟨p, 9, none⟩ = some (.slice ap m.pub.length cp) /\ u.cell? ⟨p, 10, none⟩ = some (.slice ag m.gone.length cg) /\ u.cell? ⟨p, 7, none⟩ = some (int i64 m.now) /\ u.cell? ⟨p, 2, none⟩ = some (int i64 m.c.la) /\ u.cell? ⟨w.heap.size, 0, none⟩ = some (int i64 s.t) /\ u.cell? ⟨w.heap.size, 1, none⟩ = some (int i64 s.ser) /\ u.cell? ⟨w.heap.size, 2, none⟩ = some (int i64 s.win) /\ p < u.heap.size /\ w.heap.size < u.heap.size) := fun u hu => by
  have hr := ud HRF u hu
  obtain ⟨q7, q8, q9, q10, q11, q12, q13⟩ := hr.rest
  obtain ⟨c0, c1, c2, c3, c4, c5, c6⟩ := hr.conf
  have hb := (hu.block w.heap.size (by omega)).trans y0
  exact ⟨q9, q10, q7, c2, by rw [zac hb]; rfl, by rw [zac hb]; rfl, by rw [zac hb]; rfl, hr.lt, zaa hb⟩
 have HBW := zab hbw
 have HB0 := zab (Below.refl W.heap.size W)
 have HP := zab (fun (u : World) (hu : Below W.heap.size W u) => zca B m.pub _ s u (by omega) (ud HRF u hu).prow)
 have HG := zab (fun (u : World) (hu : Below W.heap.size W u) => zca B m.gone _ s u (by omega) (ud HRF u hu).grow)
 have HE := zab (fun (u : World) (hu : Below W.heap.size W u) => end_any (ud HRF u hu) hc s hs1 hs2 hs3 hs4)
 have HK := zab (fun (u : World) (hu : Below W.heap.size W u) => keep_any (ud HRF u hu) hc s.t hs1 hs2)
 clear y0 hbw hwz
 obtain ⟨k9, k10, k7, k2, s0, s1, s2, hpz, hsz⟩ := ud HF W (Below.refl _ _)
 have hne : Nonempty (zaf W.heap.size W) := zaf.some _ _
 have hlc := fun (u : zaf W.heap.size W) b o h => u.cell b o h
 go_wp2_with fail
 refine zad W.heap.size (by kernel_rfl) (by kernel_rfl) ?_
 repeat (go_big_quiet_step (first | (go_at_call 159; exact Calls.later (Nat.le_refl _) (ud HP _ ((ud HB0).trans (Below.mono (Subtype.property _) (ud HB0).size))))))
 refine wpQuiet_nil ?_
 rintro ⟨w1, hbx⟩
 dsimp only
 clear hlc hne
 have HB1 := zab ((ud HB0).trans (hbx.mono (ud HB0).size))
 clear hbx
 clear k9 k10 k7 k2 s0 s1 s2 hpz hsz
 obtain ⟨k9, k10, k7, k2, s0, s1, s2, hpz, hsz⟩ := ud HF w1 (ud HB1)
 have hne : Nonempty (zaf w1.heap.size w1) := zaf.some _ _
 have hlc := fun (u : zaf w1.heap.size w1) b o h => u.cell b o h
 go_wp2_with fail
 refine zad w1.heap.size (by kernel_rfl) (by kernel_rfl) ?_
 repeat (go_big_quiet_step (first | (go_at_call 159; exact Calls.later (Nat.le_refl _) (ud HG _ ((ud HB1).trans (Below.mono (Subtype.property _) (ud HB1).size))))))
 refine wpQuiet_nil ?_
 rintro ⟨w2, hbx⟩
 dsimp only
 clear hlc hne
 have HB2 := zab ((ud HB1).trans (hbx.mono (ud HB1).size))
 clear hbx
 clear k9 k10 k7 k2 s0 s1 s2 hpz hsz
 obtain ⟨k9, k10, k7, k2, s0, s1, s2, hpz, hsz⟩ := ud HF w2 (ud HB2)
 go_wp2_with fail
 refine (ud HE w2 (ud HB2)).mono ?_
 rintro e w3 ⟨rfl, hbx⟩
 have HB3 := zab ((ud HB2).trans (hbx.mono (ud HB2).size))
 clear hbx
 clear k9 k10 k7 k2 s0 s1 s2 hpz hsz
 obtain ⟨k9, k10, k7, k2, s0, s1, s2, hpz, hsz⟩ := ud HF w3 (ud HB3)
 have HEND := zab (show True from trivial)
 generalize hen : m.c.end s = en at *
 have HEN := zab hen
 clear hen
 cases e0 : (s.t == -1)
 case true =>
  have HR := zab (show zdz m s l = false by simp [zdz, headRoll, e0])
  try rw [e0]
  have hne : Nonempty (zaf w3.heap.size w3) := zaf.some _ _
  have hlc := fun (u : zaf w3.heap.size w3) b o h => u.cell b o h
  go_wp2_with fail
  refine zad w3.heap.size (by kernel_rfl) (by kernel_rfl) ?_
  repeat (go_big_quiet_step (fail))
  refine wpQuiet_nil ?_
  rintro ⟨w4, hbx⟩
  dsimp only
  clear hlc hne
  have HB4 := zab ((ud HB3).trans (hbx.mono (ud HB3).size))
  clear hbx
  go_wp2_with fail
  go_ret
  exact ⟨zaq (ud HR).symm, (ud HBW).trans ((ud HB4).mono (ud HBW).size)⟩
 cases e1 : memB s m.pub
 case true =>
  have HR := zab (show zdz m s l = false by simp [zdz, headRoll, e1])
  try rw [e1]
  have hne : Nonempty (zaf w3.heap.size w3) := zaf.some _ _
  have hlc := fun (u : zaf w3.heap.size w3) b o h => u.cell b o h
  go_wp2_with fail
  refine zad w3.heap.size (by kernel_rfl) (by kernel_rfl) ?_
  repeat (go_big_quiet_step (fail))
  refine wpQuiet_nil ?_
  rintro ⟨w4, hbx⟩
  dsimp only
  clear hlc hne
  have HB4 := zab ((ud HB3).trans (hbx.mono (ud HB3).size))
  clear hbx
  go_wp2_with fail
  go_ret
  exact ⟨zaq (ud HR).symm, (ud HBW).trans ((ud HB4).mono (ud HBW).size)⟩
 cases e2 : memB s m.gone
 case true =>
  have HR := zab (show zdz m s l = false by simp [zdz, headRoll, e2])
  try rw [e2]
  have hne : Nonempty (zaf w3.heap.size w3) := zaf.some _ _
  have hlc := fun (u : zaf w3.heap.size w3) b o h => u.cell b o h
  go_wp2_with fail
  refine zad w3.heap.size (by kernel_rfl) (by kernel_rfl) ?_
  repeat (go_big_quiet_step (fail))
  refine wpQuiet_nil ?_
  rintro ⟨w4, hbx⟩
  dsimp only
  clear hlc hne
  have HB4 := zab ((ud HB3).trans (hbx.mono (ud HB3).size))
  clear hbx
  go_wp2_with fail
  go_ret
  exact ⟨zaq (ud HR).symm, (ud HBW).trans ((ud HB4).mono (ud HBW).size)⟩
 by_cases e3 : m.now - m.c.la < en
 case pos =>
  have HR := zab (show zdz m s l = false by simp [zdz, headRoll, ud HEN, e3])
  try rw [e1]
  try rw [e2]
  have hne : Nonempty (zaf w3.heap.size w3) := zaf.some _ _
  have hlc := fun (u : zaf w3.heap.size w3) b o h => u.cell b o h
  go_wp2_with fail
  refine zad w3.heap.size (by kernel_rfl) (by kernel_rfl) ?_
  repeat (go_big_quiet_step (fail))
  refine wpQuiet_nil ?_
  rintro ⟨w4, hbx⟩
  dsimp only
  clear hlc hne
  have HB4 := zab ((ud HB3).trans (hbx.mono (ud HB3).size))
  clear hbx
  go_wp2_with fail
  go_ret
  exact ⟨zaq (ud HR).symm, (ud HBW).trans ((ud HB4).mono (ud HBW).size)⟩
 have HR0 := zab (show headRoll m s = true by simp [headRoll, e0, e1, e2, ud HEN, e3])
 try rw [e1]
 try rw [e2]
 have hne : Nonempty (zaf w3.heap.size w3) := zaf.some _ _
 have hlc := fun (u : zaf w3.heap.size w3) b o h => u.cell b o h
 go_wp2_with fail
 refine zad w3.heap.size (by kernel_rfl) (by kernel_rfl) ?_
 repeat (go_big_quiet_step (fail))
 refine wpQuiet_nil ?_
 rintro ⟨w4, hbx⟩
 dsimp only
 clear hlc hne
 have HB4 := zab ((ud HB3).trans (hbx.mono (ud HB3).size))
 clear hbx
 clear k9 k10 k7 k2 s0 s1 s2 hpz hsz
 go_wp2_with fail
 go_loopw [12, 13, 14, 15, 16, 17] (fun y _ _ _ _ _ wr => ∃ (i : Nat), i <= l.length /\ y = int i64 i /\ (∀ j x, j < i -> l[j]? = some x -> (!bars1 m s x) = true) /\ Below W.heap.size W wr) (fun y _ _ _ _ _ _ => l.length - (intOf y).toNat)
 case atStart => exact ⟨0, Nat.zero_le _, rfl, fun j x hj => absurd hj (Nat.not_lt_zero _), ud HB4⟩
 case round =>
  obtain ⟨i, hi, rfl, ha, hbr⟩ := hrel
  have HA := zab ha
  have HBR := zab hbr
  clear ha hbr
  obtain ⟨k9, k10, k7, k2, s0, s1, s2, hpz, hsz⟩ := ud HF wr (ud HBR)
  by_cases hil : i < l.length
  ·obtain ⟨x, hx⟩ := zch hil
   obtain ⟨hx1, hx2, hx3, hx4⟩ := hlo x (List.mem_of_getElem? hx)
   obtain ⟨g, cap', hvn, _, hgz, x0, x1, x2⟩ := sg_at (ud HRW wr (ud HBR)) hx
   injection hvn with hvn1 hvn2 hvn3
   subst hvn1
   have hin : (i : Int) < l.length := by omega
   have HX := zab hx
   clear hx hvn2 hvn3
   go_wp2_with fail
   have hXz := zbd wr (.cells #[int i64 x.t, int i64 x.ser, int i64 x.win] 232)
   have hXl := zap wr (.cells #[int i64 x.t, int i64 x.ser, int i64 x.win] 232)
   have HBX := zab ((ud HBR).alloc (ud HBR).size (.cells #[int i64 x.t, int i64 x.ser, int i64 x.win] 232))
   generalize (wr.alloc (.cells #[int i64 x.t, int i64 x.ser, int i64 x.win] 232)) = X at *
   have HFX : Hid (∀ (u : World), Below X.heap.size X u -> u.cell? ⟨wr.heap.size, 0, none⟩ = some (int i64 x.t) /\ u.cell? ⟨wr.heap.size, 1, none⟩ = some (int i64 x.ser) /\ u.cell? ⟨wr.heap.size, 2, none⟩ = some (int i64 x.win) /\ wr.heap.size < u.heap.size) := fun u hu => by
    have hb := (hu.block wr.heap.size (by omega)).trans hXl
    exact ⟨by rw [zac hb]; rfl, by rw [zac hb]; rfl, by rw [zac hb]; rfl, zaa hb⟩
   have HPX := zab (fun (u : World) (hu : Below W.heap.size W u) => zca B m.pub _ x u (by omega) (ud HRF u hu).prow)
   have HGX := zab (fun (u : World) (hu : Below W.heap.size W u) => zca B m.gone _ x u (by omega) (ud HRF u hu).grow)
   have HO1 := zab (fun (u : World) (hu : Below W.heap.size W u) => on_any (ud HRF u hu) hc s x hs1 hs2 hx1 hx2 hx3 hx4)
   have HO2 := zab (fun (u : World) (hu : Below W.heap.size W u) => on_any (ud HRF u hu) hc x s hx1 hx2 hs1 hs2 hs3 hs4)
   have HX0 := zab (Below.refl X.heap.size X)
   clear hXz hXl x0 x1 x2
   clear k9 k10 k7 k2 s0 s1 s2 hpz hsz
   obtain ⟨k9, k10, k7, k2, s0, s1, s2, hpz, hsz⟩ := ud HF X (ud HBX)
   obtain ⟨x0, x1, x2, hxz⟩ := ud HFX X (ud HX0)
   have hne : Nonempty (zaf X.heap.size X) := zaf.some _ _
   have hlc := fun (u : zaf X.heap.size X) b o h => u.cell b o h
   go_wp2_with fail
   refine zad X.heap.size (by kernel_rfl) (by kernel_rfl) ?_
   repeat (go_big_quiet_step (first | (go_at_call 159; exact Calls.later (Nat.le_refl _) (ud HPX _ ((ud HBX).trans (Below.mono (Subtype.property _) (ud HBX).size))))))
   refine wpQuiet_nil ?_
   rintro ⟨w5, hbx⟩
   dsimp only
   clear hlc hne
   have HX5 := zab ((ud HX0).trans (hbx.mono (ud HX0).size))
   clear hbx
   have HB5 := zab ((ud HBX).trans ((ud HX5).mono (ud HBX).size))
   clear x0 x1 x2 hxz
   clear k9 k10 k7 k2 s0 s1 s2 hpz hsz
   obtain ⟨k9, k10, k7, k2, s0, s1, s2, hpz, hsz⟩ := ud HF w5 (ud HB5)
   obtain ⟨x0, x1, x2, hxz⟩ := ud HFX w5 (ud HX5)
   have hne : Nonempty (zaf w5.heap.size w5) := zaf.some _ _
   have hlc := fun (u : zaf w5.heap.size w5) b o h => u.cell b o h
   go_wp2_with fail
   refine zad w5.heap.size (by kernel_rfl) (by kernel_rfl) ?_
   repeat (go_big_quiet_step (first | (go_at_call 159; exact Calls.later (Nat.le_refl _) (ud HGX _ ((ud HB5).trans (Below.mono (Subtype.property _) (ud HB5).size))))))
   refine wpQuiet_nil ?_
   rintro ⟨w6, hbx⟩
   dsimp only
   clear hlc hne
   have HX6 := zab ((ud HX5).trans (hbx.mono (ud HX5).size))
   clear hbx
   have HB6 := zab ((ud HBX).trans ((ud HX6).mono (ud HBX).size))
   clear x0 x1 x2 hxz
   clear k9 k10 k7 k2 s0 s1 s2 hpz hsz
   obtain ⟨k9, k10, k7, k2, s0, s1, s2, hpz, hsz⟩ := ud HF w6 (ud HB6)
   obtain ⟨x0, x1, x2, hxz⟩ := ud HFX w6 (ud HX6)
   go_wp2_with fail
   refine (ud HO1 w6 (ud HB6)).mono ?_
   rintro e w7 ⟨rfl, hbx⟩
   have HX7 := zab ((ud HX6).trans (hbx.mono (ud HX6).size))
   have HB7 := zab ((ud HBX).trans ((ud HX7).mono (ud HBX).size))
   clear hbx x0 x1 x2 hxz
   clear k9 k10 k7 k2 s0 s1 s2 hpz hsz
   obtain ⟨k9, k10, k7, k2, s0, s1, s2, hpz, hsz⟩ := ud HF w7 (ud HB7)
   obtain ⟨x0, x1, x2, hxz⟩ := ud HFX w7 (ud HX7)
   go_wp2_with fail
   refine (ud HO2 w7 (ud HB7)).mono ?_
   rintro e w8 ⟨rfl, hbx⟩
   have HX8 := zab ((ud HX7).trans (hbx.mono (ud HX7).size))
   have HB8 := zab ((ud HBX).trans ((ud HX8).mono (ud HBX).size))
   clear hbx x0 x1 x2 hxz
   clear k9 k10 k7 k2 s0 s1 s2 hpz hsz
   obtain ⟨k9, k10, k7, k2, s0, s1, s2, hpz, hsz⟩ := ud HF w8 (ud HB8)
   obtain ⟨x0, x1, x2, hxz⟩ := ud HFX w8 (ud HX8)
   cases o1 : onB m.c s x
   case false =>
    have HBA := zab (show (!bars1 m s x) = true by simp [bars1, o1])
    clear o1
    go_wp2_with fail
    go_roundw
    case rel => exact ⟨i + 1, by omega, by go_num, pre_step (ud HA) (ud HX) (ud HBA), ud HB8⟩
    case measure => simp [intOf]; omega
   by_cases o2 : 0 <= x.t
   case neg =>
    have HBA := zab (show (!bars1 m s x) = true by simp [bars1, o2])
    clear o1
    go_wp2_with fail
    go_roundw
    case rel => exact ⟨i + 1, by omega, by go_num, pre_step (ud HA) (ud HX) (ud HBA), ud HB8⟩
    case measure => simp [intOf]; omega
   cases o3 : memB x m.pub
   case true =>
    have HBA := zab (show (!bars1 m s x) = true by simp [bars1, o3])
    clear o1 o3
    go_wp2_with fail
    go_roundw
    case rel => exact ⟨i + 1, by omega, by go_num, pre_step (ud HA) (ud HX) (ud HBA), ud HB8⟩
    case measure => simp [intOf]; omega
   have HR := zab (show zdz m s l = false by unfold zdz; rw [all_not (ud HX) (by simp [bars1, o1, o2, o3])]; simp)
   clear o1 o3
   go_wp2_with fail
   go_ret
   exact ⟨zaq (ud HR).symm, (ud HBW).trans ((ud HB8).mono (ud HBW).size)⟩
  ·have HR := zab (show zdz m s l = true by unfold zdz; rw [ud HR0, all_of_pre (fun j x hj hx => ud HA j x (by omega) hx)]; rfl)
   go_wp2_with fail
   go_ret
   exact ⟨zaq (ud HR).symm, (ud HBW).trans ((ud HBR).mono (ud HBW).size)⟩
set_option maxRecDepth 8000 in
set_option maxHeartbeats 8000000 in
theorem ready2_any {B B2 : Nat} {w : World} {p : Nat} {m : RM} {tv nv pv gv kv : Value} (h : zbk B w p m tv nv pv gv kv) (hc : m.c.ok) (hgl : m.gone.length <= 1000000000000) (hpl : m.pub.length <= 1000000000000) (hnow : 0 <= m.now /\ m.now <= 100000) (s : Sg) (hs : sgOk m.c s) (l : List Sg) (v : Value) (hl : l.length <= 10000000000) (hrow : w.ownsRow B2 232 3 v l.length (l.flatMap sgV)) (hlo : ∀ x ∈ l, sgOk m.c x) :
  Calls Tryz.prog 221 #[.pointer (some ⟨p, 0, none⟩), int i64 2, .agg #[int i64 s.t, int i64 s.ser, int i64 s.win], v] w fun e w' => e = .returned (.bool (zdk m s l)) /\ Below w.heap.size w w' := by
 obtain ⟨hs1, hs2, hs3, hs4⟩ := hs
 obtain ⟨al, cl, hv⟩ := zah hrow
 subst hv
 obtain ⟨ag, cg, hgv⟩ := zah h.grow
 subst hgv
 obtain ⟨ap, cp, hpv⟩ := zah h.prow
 subst hpv
 obtain ⟨hla1, hla2⟩ := hc.la
 obtain ⟨hn1, hn2⟩ := hnow
 obtain ⟨hk1, hk2⟩ := hc.keeps hs1 hs2
 obtain ⟨he1, he2⟩ := hc.ends hs1 hs2 hs3 hs4
 have y0 := zap w (.cells #[int i64 s.t, int i64 s.ser, int i64 s.win] 232)
 have hbw : Below w.heap.size w (w.alloc (.cells #[int i64 s.t, int i64 s.ser, int i64 s.win] 232)) := (Below.refl _ _).alloc (Nat.le_refl _) _
 have hwz := zbd w (.cells #[int i64 s.t, int i64 s.ser, int i64 s.win] 232)
 have H := zab h
 have HROW := zab hrow
 clear h hrow
 go_enter Tryz.func221, Tryz.ntmps221
 go_wp2_with fail
 generalize (w.alloc (.cells #[int i64 s.t, int i64 s.ser, int i64 s.win] 232)) = W at *
 have HRF := zab (fun (u : World) (hu : Below W.heap.size W u) => (ud H).later (hbw.trans (hu.mono hbw.size)))
 have HRW := zab (fun (u : World) (hu : Below W.heap.size W u) => zcc (ud HROW) (hbw.trans (hu.mono hbw.size)))
 have HF : Hid (∀ (u : World), Below W.heap.size W u -> u.cell? ⟨p, 9, none⟩ = some (.slice ap m.pub.length cp) /\ u.cell? ⟨p, 10, none⟩ = some (.slice ag m.gone.length cg) /\ u.cell? ⟨p, 7, none⟩ = some (int i64 m.now) /\ u.cell? ⟨p, 2, none⟩ = some (int i64 m.c.la) /\ u.cell? ⟨w.heap.size, 0, none⟩ = some (int i64 s.t) /\ u.cell? ⟨w.heap.size, 1, none⟩ = some (int i64 s.ser) /\ u.cell? ⟨w.heap.size, 2, none⟩ = some (int i64 s.win) /\ p < u.heap.size /\ w.heap.size < u.heap.size) := fun u hu => by
  have hr := ud HRF u hu
  obtain ⟨q7, q8, q9, q10, q11, q12, q13⟩ := hr.rest
  obtain ⟨c0, c1, c2, c3, c4, c5, c6⟩ := hr.conf
  have hb := (hu.block w.heap.size (by omega)).trans y0
  exact ⟨q9, q10, q7, c2, by rw [zac hb]; rfl, by rw [zac hb]; rfl, by rw [zac hb]; rfl, hr.lt, zaa hb⟩
 have HBW := zab hbw
 have HB0 := zab (Below.refl W.heap.size W)
 have HP := zab (fun (u : World) (hu : Below W.heap.size W u) => zca B m.pub _ s u (by omega) (ud HRF u hu).prow)
 have HG := zab (fun (u : World) (hu : Below W.heap.size W u) => zca B m.gone _ s u (by omega) (ud HRF u hu).grow)
 have HE := zab (fun (u : World) (hu : Below W.heap.size W u) => end_any (ud HRF u hu) hc s hs1 hs2 hs3 hs4)
 have HK := zab (fun (u : World) (hu : Below W.heap.size W u) => keep_any (ud HRF u hu) hc s.t hs1 hs2)
 clear y0 hbw hwz
 obtain ⟨k9, k10, k7, k2, s0, s1, s2, hpz, hsz⟩ := ud HF W (Below.refl _ _)
 have hne : Nonempty (zaf W.heap.size W) := zaf.some _ _
 have hlc := fun (u : zaf W.heap.size W) b o h => u.cell b o h
 go_wp2_with fail
 refine zad W.heap.size (by kernel_rfl) (by kernel_rfl) ?_
 repeat (go_big_quiet_step (first | (go_at_call 159; exact Calls.later (Nat.le_refl _) (ud HP _ ((ud HB0).trans (Below.mono (Subtype.property _) (ud HB0).size))))))
 refine wpQuiet_nil ?_
 rintro ⟨w1, hbx⟩
 dsimp only
 clear hlc hne
 have HB1 := zab ((ud HB0).trans (hbx.mono (ud HB0).size))
 clear hbx
 clear k9 k10 k7 k2 s0 s1 s2 hpz hsz
 obtain ⟨k9, k10, k7, k2, s0, s1, s2, hpz, hsz⟩ := ud HF w1 (ud HB1)
 have hne : Nonempty (zaf w1.heap.size w1) := zaf.some _ _
 have hlc := fun (u : zaf w1.heap.size w1) b o h => u.cell b o h
 go_wp2_with fail
 refine zad w1.heap.size (by kernel_rfl) (by kernel_rfl) ?_
 repeat (go_big_quiet_step (first | (go_at_call 159; exact Calls.later (Nat.le_refl _) (ud HG _ ((ud HB1).trans (Below.mono (Subtype.property _) (ud HB1).size))))))
 refine wpQuiet_nil ?_
 rintro ⟨w2, hbx⟩
 dsimp only
 clear hlc hne
 have HB2 := zab ((ud HB1).trans (hbx.mono (ud HB1).size))
 clear hbx
 clear k9 k10 k7 k2 s0 s1 s2 hpz hsz
 obtain ⟨k9, k10, k7, k2, s0, s1, s2, hpz, hsz⟩ := ud HF w2 (ud HB2)
 go_wp2_with fail
 refine (ud HE w2 (ud HB2)).mono ?_
 rintro e w3 ⟨rfl, hbx⟩
 have HB3 := zab ((ud HB2).trans (hbx.mono (ud HB2).size))
 clear hbx
 clear k9 k10 k7 k2 s0 s1 s2 hpz hsz
 obtain ⟨k9, k10, k7, k2, s0, s1, s2, hpz, hsz⟩ := ud HF w3 (ud HB3)
 have HEND := zab (show True from trivial)
 generalize hen : m.c.end s = en at *
 have HEN := zab hen
 clear hen
 cases e0 : memB s m.gone
 case true =>
  have HR := zab (show zdk m s l = false by simp [zdk, zef, e0])
  try rw [e0]
  have hne : Nonempty (zaf w3.heap.size w3) := zaf.some _ _
  have hlc := fun (u : zaf w3.heap.size w3) b o h => u.cell b o h
  go_wp2_with fail
  refine zad w3.heap.size (by kernel_rfl) (by kernel_rfl) ?_
  repeat (go_big_quiet_step (first | (go_at_call 230; exact Calls.later_same (ud HK _ ((ud HB3).trans (Below.mono (Subtype.property _) (ud HB3).size))))))
  refine wpQuiet_nil ?_
  rintro ⟨w4, hbx⟩
  dsimp only
  clear hlc hne
  have HB4 := zab ((ud HB3).trans (hbx.mono (ud HB3).size))
  clear hbx
  go_wp2_with fail
  go_ret
  exact ⟨zaq (ud HR).symm, (ud HBW).trans ((ud HB4).mono (ud HBW).size)⟩
 cases e1 : (decide (0 <= s.t) && !memB s m.pub)
 case true =>
  have HR := zab (show zdk m s l = false by simp [zdk, zef, e1])
  rw [Bool.and_eq_true, decide_eq_true_eq, Bool.not_eq_true'] at e1
  obtain ⟨e1a, e1b⟩ := e1
  try rw [e0]
  try rw [e1b]
  have hne : Nonempty (zaf w3.heap.size w3) := zaf.some _ _
  have hlc := fun (u : zaf w3.heap.size w3) b o h => u.cell b o h
  go_wp2_with fail
  refine zad w3.heap.size (by kernel_rfl) (by kernel_rfl) ?_
  repeat (go_big_quiet_step (first | (go_at_call 230; exact Calls.later_same (ud HK _ ((ud HB3).trans (Below.mono (Subtype.property _) (ud HB3).size))))))
  refine wpQuiet_nil ?_
  rintro ⟨w4, hbx⟩
  dsimp only
  clear hlc hne
  have HB4 := zab ((ud HB3).trans (hbx.mono (ud HB3).size))
  clear hbx
  go_wp2_with fail
  go_ret
  exact ⟨zaq (ud HR).symm, (ud HBW).trans ((ud HB4).mono (ud HBW).size)⟩
 rw [Bool.and_eq_false_iff, decide_eq_false_iff_not, Bool.not_eq_false'] at e1
 by_cases e3 : m.now < en + m.c.keep s.t
 case pos =>
  have HR := zab (show zdk m s l = false by simp [zdk, zef, ud HEN, e3])
  try rw [e0]
  by_cases e4 : 0 <= s.t
  case pos =>
   rw [e1.resolve_left (fun h => h e4)]
   have hne : Nonempty (zaf w3.heap.size w3) := zaf.some _ _
   have hlc := fun (u : zaf w3.heap.size w3) b o h => u.cell b o h
   go_wp2_with fail
   refine zad w3.heap.size (by kernel_rfl) (by kernel_rfl) ?_
   repeat (go_big_quiet_step (first | (go_at_call 230; exact Calls.later_same (ud HK _ ((ud HB3).trans (Below.mono (Subtype.property _) (ud HB3).size))))))
   refine wpQuiet_nil ?_
   rintro ⟨w4, hbx⟩
   dsimp only
   clear hlc hne
   have HB4 := zab ((ud HB3).trans (hbx.mono (ud HB3).size))
   clear hbx
   go_wp2_with fail
   go_ret
   exact ⟨zaq (ud HR).symm, (ud HBW).trans ((ud HB4).mono (ud HBW).size)⟩
  case neg =>
   have e4b : decide (0 <= s.t) = false := by simpa using e4
   have hne : Nonempty (zaf w3.heap.size w3) := zaf.some _ _
   have hlc := fun (u : zaf w3.heap.size w3) b o h => u.cell b o h
   go_wp2_with fail
   refine zad w3.heap.size (by kernel_rfl) (by kernel_rfl) ?_
   repeat (go_big_quiet_step (first | (go_at_call 230; exact Calls.later_same (ud HK _ ((ud HB3).trans (Below.mono (Subtype.property _) (ud HB3).size))))))
   refine wpQuiet_nil ?_
   rintro ⟨w4, hbx⟩
   dsimp only
   clear hlc hne
   have HB4 := zab ((ud HB3).trans (hbx.mono (ud HB3).size))
   clear hbx
   go_wp2_with fail
   go_ret
   exact ⟨zaq (ud HR).symm, (ud HBW).trans ((ud HB4).mono (ud HBW).size)⟩
 have HR0 := zab (show zef m s = true by rcases e1 with e1 | e1 <;> simp [zef, e0, e1, ud HEN, e3])
 try rw [e0]
 have HGO : Hid (∀ (b : Bool), True) := fun _ => trivial
 by_cases e4 : 0 <= s.t
 case pos =>
  rw [e1.resolve_left (fun h => h e4)]
  have hne : Nonempty (zaf w3.heap.size w3) := zaf.some _ _
  have hlc := fun (u : zaf w3.heap.size w3) b o h => u.cell b o h
  go_wp2_with fail
  refine zad w3.heap.size (by kernel_rfl) (by kernel_rfl) ?_
  repeat (go_big_quiet_step (first | (go_at_call 230; exact Calls.later_same (ud HK _ ((ud HB3).trans (Below.mono (Subtype.property _) (ud HB3).size))))))
  refine wpQuiet_nil ?_
  rintro ⟨w4, hbx⟩
  dsimp only
  clear hlc hne
  have HB4 := zab ((ud HB3).trans (hbx.mono (ud HB3).size))
  clear hbx
  clear k9 k10 k7 k2 s0 s1 s2 hpz hsz
  go_wp2_with fail
  go_loopw [12, 13, 14, 15, 16, 17] (fun y _ _ _ _ _ wr => ∃ (i : Nat), i <= l.length /\ y = int i64 i /\ (∀ j x, j < i -> l[j]? = some x -> (!bars2 m s x) = true) /\ Below W.heap.size W wr) (fun y _ _ _ _ _ _ => l.length - (intOf y).toNat)
  case atStart => exact ⟨0, Nat.zero_le _, rfl, fun j x hj => absurd hj (Nat.not_lt_zero _), ud HB4⟩
  case round =>
   obtain ⟨i, hi, rfl, ha, hbr⟩ := hrel
   have HA := zab ha
   have HBR := zab hbr
   clear ha hbr
   obtain ⟨k9, k10, k7, k2, s0, s1, s2, hpz, hsz⟩ := ud HF wr (ud HBR)
   by_cases hil : i < l.length
   ·obtain ⟨x, hx⟩ := zch hil
    obtain ⟨hx1, hx2, hx3, hx4⟩ := hlo x (List.mem_of_getElem? hx)
    obtain ⟨g, cap', hvn, _, hgz, x0, x1, x2⟩ := sg_at (ud HRW wr (ud HBR)) hx
    injection hvn with hvn1 hvn2 hvn3
    subst hvn1
    have hin : (i : Int) < l.length := by omega
    have HX := zab hx
    clear hx hvn2 hvn3
    go_wp2_with fail
    have hXz := zbd wr (.cells #[int i64 x.t, int i64 x.ser, int i64 x.win] 232)
    have hXl := zap wr (.cells #[int i64 x.t, int i64 x.ser, int i64 x.win] 232)
    have HBX := zab ((ud HBR).alloc (ud HBR).size (.cells #[int i64 x.t, int i64 x.ser, int i64 x.win] 232))
    generalize (wr.alloc (.cells #[int i64 x.t, int i64 x.ser, int i64 x.win] 232)) = X at *
    have HFX : Hid (∀ (u : World), Below X.heap.size X u -> u.cell? ⟨wr.heap.size, 0, none⟩ = some (int i64 x.t) /\ u.cell? ⟨wr.heap.size, 1, none⟩ = some (int i64 x.ser) /\ u.cell? ⟨wr.heap.size, 2, none⟩ = some (int i64 x.win) /\ wr.heap.size < u.heap.size) := fun u hu => by
     have hb := (hu.block wr.heap.size (by omega)).trans hXl
     exact ⟨by rw [zac hb]; rfl, by rw [zac hb]; rfl, by rw [zac hb]; rfl, zaa hb⟩
    have HPX := zab (fun (u : World) (hu : Below W.heap.size W u) => zca B m.pub _ x u (by omega) (ud HRF u hu).prow)
    have HGX := zab (fun (u : World) (hu : Below W.heap.size W u) => zca B m.gone _ x u (by omega) (ud HRF u hu).grow)
    have HO1 := zab (fun (u : World) (hu : Below W.heap.size W u) => on_any (ud HRF u hu) hc s x hs1 hs2 hx1 hx2 hx3 hx4)
    have HO2 := zab (fun (u : World) (hu : Below W.heap.size W u) => on_any (ud HRF u hu) hc x s hx1 hx2 hs1 hs2 hs3 hs4)
    have HX0 := zab (Below.refl X.heap.size X)
    clear hXz hXl x0 x1 x2
    clear k9 k10 k7 k2 s0 s1 s2 hpz hsz
    obtain ⟨k9, k10, k7, k2, s0, s1, s2, hpz, hsz⟩ := ud HF X (ud HBX)
    obtain ⟨x0, x1, x2, hxz⟩ := ud HFX X (ud HX0)
    have hne : Nonempty (zaf X.heap.size X) := zaf.some _ _
    have hlc := fun (u : zaf X.heap.size X) b o h => u.cell b o h
    go_wp2_with fail
    refine zad X.heap.size (by kernel_rfl) (by kernel_rfl) ?_
    repeat (go_big_quiet_step (first | (go_at_call 159; exact Calls.later (Nat.le_refl _) (ud HPX _ ((ud HBX).trans (Below.mono (Subtype.property _) (ud HBX).size))))))
    refine wpQuiet_nil ?_
    rintro ⟨w5, hbx⟩
    dsimp only
    clear hlc hne
    have HX5 := zab ((ud HX0).trans (hbx.mono (ud HX0).size))
    clear hbx
    have HB5 := zab ((ud HBX).trans ((ud HX5).mono (ud HBX).size))
    clear x0 x1 x2 hxz
    clear k9 k10 k7 k2 s0 s1 s2 hpz hsz
    obtain ⟨k9, k10, k7, k2, s0, s1, s2, hpz, hsz⟩ := ud HF w5 (ud HB5)
    obtain ⟨x0, x1, x2, hxz⟩ := ud HFX w5 (ud HX5)
    have hne : Nonempty (zaf w5.heap.size w5) := zaf.some _ _
    have hlc := fun (u : zaf w5.heap.size w5) b o h => u.cell b o h
    go_wp2_with fail
    refine zad w5.heap.size (by kernel_rfl) (by kernel_rfl) ?_
    repeat (go_big_quiet_step (first | (go_at_call 159; exact Calls.later (Nat.le_refl _) (ud HGX _ ((ud HB5).trans (Below.mono (Subtype.property _) (ud HB5).size))))))
    refine wpQuiet_nil ?_
    rintro ⟨w6, hbx⟩
    dsimp only
    clear hlc hne
    have HX6 := zab ((ud HX5).trans (hbx.mono (ud HX5).size))
    clear hbx
    have HB6 := zab ((ud HBX).trans ((ud HX6).mono (ud HBX).size))
    clear x0 x1 x2 hxz
    clear k9 k10 k7 k2 s0 s1 s2 hpz hsz
    obtain ⟨k9, k10, k7, k2, s0, s1, s2, hpz, hsz⟩ := ud HF w6 (ud HB6)
    obtain ⟨x0, x1, x2, hxz⟩ := ud HFX w6 (ud HX6)
    go_wp2_with fail
    refine (ud HO1 w6 (ud HB6)).mono ?_
    rintro e w7 ⟨rfl, hbx⟩
    have HX7 := zab ((ud HX6).trans (hbx.mono (ud HX6).size))
    have HB7 := zab ((ud HBX).trans ((ud HX7).mono (ud HBX).size))
    clear hbx x0 x1 x2 hxz
    clear k9 k10 k7 k2 s0 s1 s2 hpz hsz
    obtain ⟨k9, k10, k7, k2, s0, s1, s2, hpz, hsz⟩ := ud HF w7 (ud HB7)
    obtain ⟨x0, x1, x2, hxz⟩ := ud HFX w7 (ud HX7)
    go_wp2_with fail
    refine (ud HO2 w7 (ud HB7)).mono ?_
    rintro e w8 ⟨rfl, hbx⟩
    have HX8 := zab ((ud HX7).trans (hbx.mono (ud HX7).size))
    have HB8 := zab ((ud HBX).trans ((ud HX8).mono (ud HBX).size))
    clear hbx x0 x1 x2 hxz
    clear k9 k10 k7 k2 s0 s1 s2 hpz hsz
    obtain ⟨k9, k10, k7, k2, s0, s1, s2, hpz, hsz⟩ := ud HF w8 (ud HB8)
    obtain ⟨x0, x1, x2, hxz⟩ := ud HFX w8 (ud HX8)
    cases o1 : onB m.c x s
    case false =>
     have HBA := zab (show (!bars2 m s x) = true by simp [bars2, o1])
     clear o1
     go_wp2_with fail
     go_roundw
     case rel => exact ⟨i + 1, by omega, by go_num, pre_step (ud HA) (ud HX) (ud HBA), ud HB8⟩
     case measure => simp [intOf]; omega
    cases o2 : memB x m.pub
    case true =>
     have HBA := zab (show (!bars2 m s x) = true by simp [bars2, o2])
     clear o1 o2
     go_wp2_with fail
     go_roundw
     case rel => exact ⟨i + 1, by omega, by go_num, pre_step (ud HA) (ud HX) (ud HBA), ud HB8⟩
     case measure => simp [intOf]; omega
    cases o3 : memB x m.gone
    case true =>
     have HBA := zab (show (!bars2 m s x) = true by simp [bars2, o3])
     clear o1 o2 o3
     go_wp2_with fail
     go_roundw
     case rel => exact ⟨i + 1, by omega, by go_num, pre_step (ud HA) (ud HX) (ud HBA), ud HB8⟩
     case measure => simp [intOf]; omega
    have HR := zab (show zdk m s l = false by unfold zdk; rw [all_not (ud HX) (by simp [bars2, o1, o2, o3])]; simp)
    clear o1 o2 o3
    go_wp2_with fail
    go_ret
    exact ⟨zaq (ud HR).symm, (ud HBW).trans ((ud HB8).mono (ud HBW).size)⟩
   ·have HR := zab (show zdk m s l = true by unfold zdk; rw [ud HR0, all_of_pre (fun j x hj hx => ud HA j x (by omega) hx)]; rfl)
    go_wp2_with fail
    go_ret
    exact ⟨zaq (ud HR).symm, (ud HBW).trans ((ud HBR).mono (ud HBW).size)⟩
 case neg =>
  have e4b : decide (0 <= s.t) = false := by simpa using e4
  have hne : Nonempty (zaf w3.heap.size w3) := zaf.some _ _
  have hlc := fun (u : zaf w3.heap.size w3) b o h => u.cell b o h
  go_wp2_with fail
  refine zad w3.heap.size (by kernel_rfl) (by kernel_rfl) ?_
  repeat (go_big_quiet_step (first | (go_at_call 230; exact Calls.later_same (ud HK _ ((ud HB3).trans (Below.mono (Subtype.property _) (ud HB3).size))))))
  refine wpQuiet_nil ?_
  rintro ⟨w4, hbx⟩
  dsimp only
  clear hlc hne
  have HB4 := zab ((ud HB3).trans (hbx.mono (ud HB3).size))
  clear hbx
  clear k9 k10 k7 k2 s0 s1 s2 hpz hsz
  go_wp2_with fail
  go_loopw [12, 13, 14, 15, 16, 17] (fun y _ _ _ _ _ wr => ∃ (i : Nat), i <= l.length /\ y = int i64 i /\ (∀ j x, j < i -> l[j]? = some x -> (!bars2 m s x) = true) /\ Below W.heap.size W wr) (fun y _ _ _ _ _ _ => l.length - (intOf y).toNat)
  case atStart => exact ⟨0, Nat.zero_le _, rfl, fun j x hj => absurd hj (Nat.not_lt_zero _), ud HB4⟩
  case round =>
   obtain ⟨i, hi, rfl, ha, hbr⟩ := hrel
   have HA := zab ha
   have HBR := zab hbr
   clear ha hbr
   obtain ⟨k9, k10, k7, k2, s0, s1, s2, hpz, hsz⟩ := ud HF wr (ud HBR)
   by_cases hil : i < l.length
   ·obtain ⟨x, hx⟩ := zch hil
    obtain ⟨hx1, hx2, hx3, hx4⟩ := hlo x (List.mem_of_getElem? hx)
    obtain ⟨g, cap', hvn, _, hgz, x0, x1, x2⟩ := sg_at (ud HRW wr (ud HBR)) hx
    injection hvn with hvn1 hvn2 hvn3
    subst hvn1
    have hin : (i : Int) < l.length := by omega
    have HX := zab hx
    clear hx hvn2 hvn3
    go_wp2_with fail
    have hXz := zbd wr (.cells #[int i64 x.t, int i64 x.ser, int i64 x.win] 232)
    have hXl := zap wr (.cells #[int i64 x.t, int i64 x.ser, int i64 x.win] 232)
    have HBX := zab ((ud HBR).alloc (ud HBR).size (.cells #[int i64 x.t, int i64 x.ser, int i64 x.win] 232))
    generalize (wr.alloc (.cells #[int i64 x.t, int i64 x.ser, int i64 x.win] 232)) = X at *
    have HFX : Hid (∀ (u : World), Below X.heap.size X u -> u.cell? ⟨wr.heap.size, 0, none⟩ = some (int i64 x.t) /\ u.cell? ⟨wr.heap.size, 1, none⟩ = some (int i64 x.ser) /\ u.cell? ⟨wr.heap.size, 2, none⟩ = some (int i64 x.win) /\ wr.heap.size < u.heap.size) := fun u hu => by
     have hb := (hu.block wr.heap.size (by omega)).trans hXl
     exact ⟨by rw [zac hb]; rfl, by rw [zac hb]; rfl, by rw [zac hb]; rfl, zaa hb⟩
    have HPX := zab (fun (u : World) (hu : Below W.heap.size W u) => zca B m.pub _ x u (by omega) (ud HRF u hu).prow)
    have HGX := zab (fun (u : World) (hu : Below W.heap.size W u) => zca B m.gone _ x u (by omega) (ud HRF u hu).grow)
    have HO1 := zab (fun (u : World) (hu : Below W.heap.size W u) => on_any (ud HRF u hu) hc s x hs1 hs2 hx1 hx2 hx3 hx4)
    have HO2 := zab (fun (u : World) (hu : Below W.heap.size W u) => on_any (ud HRF u hu) hc x s hx1 hx2 hs1 hs2 hs3 hs4)
    have HX0 := zab (Below.refl X.heap.size X)
    clear hXz hXl x0 x1 x2
    clear k9 k10 k7 k2 s0 s1 s2 hpz hsz
    obtain ⟨k9, k10, k7, k2, s0, s1, s2, hpz, hsz⟩ := ud HF X (ud HBX)
    obtain ⟨x0, x1, x2, hxz⟩ := ud HFX X (ud HX0)
    have hne : Nonempty (zaf X.heap.size X) := zaf.some _ _
    have hlc := fun (u : zaf X.heap.size X) b o h => u.cell b o h
    go_wp2_with fail
    refine zad X.heap.size (by kernel_rfl) (by kernel_rfl) ?_
    repeat (go_big_quiet_step (first | (go_at_call 159; exact Calls.later (Nat.le_refl _) (ud HPX _ ((ud HBX).trans (Below.mono (Subtype.property _) (ud HBX).size))))))
    refine wpQuiet_nil ?_
    rintro ⟨w5, hbx⟩
    dsimp only
    clear hlc hne
    have HX5 := zab ((ud HX0).trans (hbx.mono (ud HX0).size))
    clear hbx
    have HB5 := zab ((ud HBX).trans ((ud HX5).mono (ud HBX).size))
    clear x0 x1 x2 hxz
    clear k9 k10 k7 k2 s0 s1 s2 hpz hsz
    obtain ⟨k9, k10, k7, k2, s0, s1, s2, hpz, hsz⟩ := ud HF w5 (ud HB5)
    obtain ⟨x0, x1, x2, hxz⟩ := ud HFX w5 (ud HX5)
    have hne : Nonempty (zaf w5.heap.size w5) := zaf.some _ _
    have hlc := fun (u : zaf w5.heap.size w5) b o h => u.cell b o h
    go_wp2_with fail
    refine zad w5.heap.size (by kernel_rfl) (by kernel_rfl) ?_
    repeat (go_big_quiet_step (first | (go_at_call 159; exact Calls.later (Nat.le_refl _) (ud HGX _ ((ud HB5).trans (Below.mono (Subtype.property _) (ud HB5).size))))))
    refine wpQuiet_nil ?_
    rintro ⟨w6, hbx⟩
    dsimp only
    clear hlc hne
    have HX6 := zab ((ud HX5).trans (hbx.mono (ud HX5).size))
    clear hbx
    have HB6 := zab ((ud HBX).trans ((ud HX6).mono (ud HBX).size))
    clear x0 x1 x2 hxz
    clear k9 k10 k7 k2 s0 s1 s2 hpz hsz
    obtain ⟨k9, k10, k7, k2, s0, s1, s2, hpz, hsz⟩ := ud HF w6 (ud HB6)
    obtain ⟨x0, x1, x2, hxz⟩ := ud HFX w6 (ud HX6)
    go_wp2_with fail
    refine (ud HO1 w6 (ud HB6)).mono ?_
    rintro e w7 ⟨rfl, hbx⟩
    have HX7 := zab ((ud HX6).trans (hbx.mono (ud HX6).size))
    have HB7 := zab ((ud HBX).trans ((ud HX7).mono (ud HBX).size))
    clear hbx x0 x1 x2 hxz
    clear k9 k10 k7 k2 s0 s1 s2 hpz hsz
    obtain ⟨k9, k10, k7, k2, s0, s1, s2, hpz, hsz⟩ := ud HF w7 (ud HB7)
    obtain ⟨x0, x1, x2, hxz⟩ := ud HFX w7 (ud HX7)
    go_wp2_with fail
    refine (ud HO2 w7 (ud HB7)).mono ?_
    rintro e w8 ⟨rfl, hbx⟩
    have HX8 := zab ((ud HX7).trans (hbx.mono (ud HX7).size))
    have HB8 := zab ((ud HBX).trans ((ud HX8).mono (ud HBX).size))
    clear hbx x0 x1 x2 hxz
    clear k9 k10 k7 k2 s0 s1 s2 hpz hsz
    obtain ⟨k9, k10, k7, k2, s0, s1, s2, hpz, hsz⟩ := ud HF w8 (ud HB8)
    obtain ⟨x0, x1, x2, hxz⟩ := ud HFX w8 (ud HX8)
    cases o1 : onB m.c x s
    case false =>
     have HBA := zab (show (!bars2 m s x) = true by simp [bars2, o1])
     clear o1
     go_wp2_with fail
     go_roundw
     case rel => exact ⟨i + 1, by omega, by go_num, pre_step (ud HA) (ud HX) (ud HBA), ud HB8⟩
     case measure => simp [intOf]; omega
    cases o2 : memB x m.pub
    case true =>
     have HBA := zab (show (!bars2 m s x) = true by simp [bars2, o2])
     clear o1 o2
     go_wp2_with fail
     go_roundw
     case rel => exact ⟨i + 1, by omega, by go_num, pre_step (ud HA) (ud HX) (ud HBA), ud HB8⟩
     case measure => simp [intOf]; omega
    cases o3 : memB x m.gone
    case true =>
     have HBA := zab (show (!bars2 m s x) = true by simp [bars2, o3])
     clear o1 o2 o3
     go_wp2_with fail
     go_roundw
     case rel => exact ⟨i + 1, by omega, by go_num, pre_step (ud HA) (ud HX) (ud HBA), ud HB8⟩
     case measure => simp [intOf]; omega
    have HR := zab (show zdk m s l = false by unfold zdk; rw [all_not (ud HX) (by simp [bars2, o1, o2, o3])]; simp)
    clear o1 o2 o3
    go_wp2_with fail
    go_ret
    exact ⟨zaq (ud HR).symm, (ud HBW).trans ((ud HB8).mono (ud HBW).size)⟩
   ·have HR := zab (show zdk m s l = true by unfold zdk; rw [ud HR0, all_of_pre (fun j x hj hx => ud HA j x (by omega) hx)]; rfl)
    go_wp2_with fail
    go_ret
    exact ⟨zaq (ud HR).symm, (ud HBW).trans ((ud HBR).mono (ud HBW).size)⟩
end Go.Proofs.YtpbimdkclnekeaaGreat
