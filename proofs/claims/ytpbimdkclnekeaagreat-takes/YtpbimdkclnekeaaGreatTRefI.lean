import Derived.Test.YtpbimdkclnekeaaGreatTRefE
import Derived.Laws.OwnMore
import Derived.Deep.RegionHeld3

namespace Go.Proofs.YtpbimdkclnekeaaGreat
open Go.RowKit
set_option linter.unusedVariables false
theorem owns_one {w : World} {B : Nat} {e : TypeId} {size : Nat} {g n cap : Nat} {xs : List Value} (h : w.ownsRow B e size (.slice (some ⟨g, 0, none⟩) n cap) n xs) : ∀ j u, xs[j]? = some u -> w.cell? ((⟨g, 0, none⟩ : Addr).add j) = some u := h.cells (g := g) rfl
theorem run_append_copy {P : Program} (w : World) (t ty e : TypeId) (i : TypeInfo) (z : Value) (size bytes : Nat) (ht : P.underlying t = some (.slice e)) (hi : P.info? e = some i) (hz : i.zero = some z)
  (hsize : i.size = size) (hby : i.bytes = bytes) (hzs : z.cells.size = size) (hsz : 0 < size) (B : Nat) (src : Value) (n : Nat) (xs : List Value) (hsrc : w.ownsRow B e size src n xs) (h1 : ∀ u ∈ xs, u.oneCell' = true)
  (h63 : n <= maxLen) (hbytes : n * bytes <= 140737488355328) :
  ∃ a c w', (Builtin.append_ #[t, t] ty #[.slice none 0 0, src]).run P w = .ok (.slice a n c) w' /\ w'.ownsRow w.heap.size e size (.slice a n c) n xs /\ Below w.heap.size w w' := by
 rcases hsrc.2 with ⟨rfl, rfl⟩ | ⟨g, cap, cur, rfl, hb, hg, r⟩
 ·have hx : xs = [] := List.eq_nil_of_length_eq_zero (by have := hsrc.1; simpa using this)
  subst hx
  exact ⟨none, 0, w, run_append_owned_none (P := P) w w.heap.size t ty e i size ht hi _ 0 [] (World.ownsRow_nil _ _ _ _), World.ownsRow_nil _ _ _ _, Below.refl _ _⟩
 ·obtain ⟨v', w', hr, h2, h3, _, _⟩ := run_append_own_at (P := P) w w.heap.size t ty e i z size bytes ht hi hz hsize hby hzs hsz (.slice none 0 0) 0 [] (World.ownsRow_nil _ _ _ _) ⟨g, 0, none⟩ n cap xs hsrc.1 (owns_one hsrc) h1 (by omega) (by simpa using hbytes) (Nat.le_refl _)
  rw [Nat.zero_add, List.nil_append] at h2
  obtain ⟨a, c, rfl⟩ := zah h2
  exact ⟨a, c, w', hr, h2, (Below.refl _ _).grown h3 (Nat.le_refl _) (fun k hk => by cases hk)⟩
theorem zem {P : Program} {w : World} {ops : Array Oper} {o : Oper} {a : Act} {K : Act -> World -> Prop} {Q : Exit -> Act -> World -> Prop} {E : Prop} (hgd : o.guard = none) (s x : Operand) (t : TypeId)
  (ho : o.op = .call { callee := .builtin .append, args := #[s, x], argTypes := #[t, t] })
  (e : TypeId) (z : Value) (size bytes : Nat) (ht : P.underlying t = some (.slice e)) (hinfo : (P.info? e).map (fun i => (i.zero, i.size, i.bytes)) = some (some z, size, bytes)) (hzs : z.cells.size = size) (hsz : 0 < size)
  (B : Nat) (src : Value) (n : Nat) (xs : List Value) (hs : a.eval s = .slice none 0 0) (hx : a.eval x = src) (hsrc : w.ownsRow B e size src n xs) (h1 : ∀ u ∈ xs, u.oneCell' = true) (h63 : n <= maxLen) (hbytes : n * bytes <= 140737488355328)
  (h : ∀ a' c' w', w'.ownsRow w.heap.size e size (.slice a' n c') n xs -> Below w.heap.size w w' -> K (a.put o.dst (.slice a' n c')) w') :
  if Region.wanted o (yielded ops a.tmps) = true then Oper.wp P o a w K Q else E := by
 have hw : Region.wanted o (yielded ops a.tmps) = true := by simp [Region.wanted, hgd]
 rw [if_pos hw]
 cases hq : P.info? e with
 | none => simp [hq] at hinfo
 | some i =>
  simp only [hq, Option.map_some, Option.some.injEq, Prod.mk.injEq] at hinfo
  obtain ⟨hz, hsize, hby⟩ := hinfo
  obtain ⟨a', c', w', hr, h2, h3⟩ := run_append_copy (P := P) w t o.type e i z size bytes ht hq hz hsize hby hzs hsz B src n xs hsrc h1 h63 hbytes
  unfold Oper.wp
  simp [execOp, ho, resolve, invoke, builtin, hs, hx, hr, Result.andThen]
  exact h a' c' w' h2 h3
end Go.Proofs.YtpbimdkclnekeaaGreat

namespace Go.Proofs.YtpbimdkclnekeaaGreat
open Value (int)
open IntKind (i64)
open Go.RowKit
set_option linter.unusedVariables false
theorem owns_base2 {w : World} {base base' size n : Nat} {e : TypeId} {v : Value} {xs : List Value} (h : w.ownsRow base e size v n xs) (hb : base' <= base) : w.ownsRow base' e size v n xs := owns_base h hb
section
variable {B : Nat} {w : World} {p : Nat} {m : RM} {tv nv pv gv kv z : Value}
theorem zbk.putNums {l : List Nm} (h : zbk B w p m tv nv pv gv kv) (hz : w.ownsRow B 269 3 z l.length (l.flatMap nmV)) : zbk B (w.setCell ⟨p, 8, none⟩ z) p { m with nums := l } tv z pv gv kv := by
 have hk : zan (fun k => k = p) w (w.setCell ⟨p, 8, none⟩ z) := zag (zan.refl _ _) rfl
 exact ⟨zbz (i := 8) h.head z, h.base, zae h.trow hk (zau h.head h.trow (by decide)), zae hz hk (zau h.head hz (by decide)), zae h.prow hk (zau h.head h.prow (by decide)), zae h.grow hk (zau h.head h.grow (by decide)), zae h.krow hk (zau h.head h.krow (by decide))⟩
theorem zbk.putPub {l : List Sg} (h : zbk B w p m tv nv pv gv kv) (hz : w.ownsRow B 232 3 z l.length (l.flatMap sgV)) : zbk B (w.setCell ⟨p, 9, none⟩ z) p { m with pub := l } tv nv z gv kv := by
 have hk : zan (fun k => k = p) w (w.setCell ⟨p, 9, none⟩ z) := zag (zan.refl _ _) rfl
 exact ⟨zbz (i := 9) h.head z, h.base, zae h.trow hk (zau h.head h.trow (by decide)), zae h.nrow hk (zau h.head h.nrow (by decide)), zae hz hk (zau h.head hz (by decide)), zae h.grow hk (zau h.head h.grow (by decide)), zae h.krow hk (zau h.head h.krow (by decide))⟩
theorem zbk.putGone {l : List Sg} (h : zbk B w p m tv nv pv gv kv) (hz : w.ownsRow B 232 3 z l.length (l.flatMap sgV)) : zbk B (w.setCell ⟨p, 10, none⟩ z) p { m with gone := l } tv nv pv z kv := by
 have hk : zan (fun k => k = p) w (w.setCell ⟨p, 10, none⟩ z) := zag (zan.refl _ _) rfl
 exact ⟨zbz (i := 10) h.head z, h.base, zae h.trow hk (zau h.head h.trow (by decide)), zae h.nrow hk (zau h.head h.nrow (by decide)), zae h.prow hk (zau h.head h.prow (by decide)), zae hz hk (zau h.head hz (by decide)), zae h.krow hk (zau h.head h.krow (by decide))⟩
theorem zbk.putPicks (h : zbk B w p m tv nv pv gv kv) (n : Int) : zbk B (w.setCell ⟨p, 13, none⟩ (int i64 n)) p { m with picks := n } tv nv pv gv kv := by
 have hk : zan (fun k => k = p) w (w.setCell ⟨p, 13, none⟩ (int i64 n)) := zag (zan.refl _ _) rfl
 exact ⟨zbz (i := 13) h.head _, h.base, zae h.trow hk (zau h.head h.trow (by decide)), zae h.nrow hk (zau h.head h.nrow (by decide)), zae h.prow hk (zau h.head h.prow (by decide)), zae h.grow hk (zau h.head h.grow (by decide)), zae h.krow hk (zau h.head h.krow (by decide))⟩
end
def copyPost (w : World) (m : RM) (q : Nat) (w' : World) : Prop := ∃ tv' nv' pv' gv' kv', zbk w.heap.size w' q m tv' nv' pv' gv' kv' /\ Below w.heap.size w w' /\ ∀ k, pv'.ownBlock = some k -> ¬ gv'.ownBlock = some k
set_option maxRecDepth 8000 in
set_option maxHeartbeats 4000000 in
theorem rcopy_any {B : Nat} {w : World} {p : Nat} {m : RM} {tv nv pv gv kv : Value} (h : zbk B w p m tv nv pv gv kv) (hc : m.c.ok) (hnl : m.nums.length <= 1000000000) (hgl : m.gone.length <= 1000000000) (hpl : m.pub.length <= 1000000000) (hkl : m.tasks.length <= 1000000000) :
  Calls Tryz.prog 104 #[.pointer (some ⟨p, 0, none⟩)] w fun e w' => ∃ q, e = .returned (.pointer (some ⟨q, 0, none⟩)) /\ copyPost w m q w' := by
 obtain ⟨a, cap, htv⟩ := zah h.trow
 subst htv
 obtain ⟨c0, c1, c2, c3, c4, c5, c6⟩ := h.conf
 obtain ⟨-, -, -, -, -, r12, -⟩ := h.rest
 have hp := h.lt
 have HM := zab h
 have HN0 := zab (rnew_any m.c hc a cap m.epoch w (TS.of_owns h.trow))
 have HN1 := zab (rnew_any m.c hc a cap m.epoch w.drew (TS.of_owns h.trow))
 clear h
 go_enter Tryz.func104, Tryz.ntmps104
 go_wp2_with fail
 go_region_held3 (fun w' => w'.cell? ⟨p, 0, none⟩ = some (int i64 m.c.s) /\ w'.cell? ⟨p, 1, none⟩ = some (int i64 m.c.le) /\ w'.cell? ⟨p, 2, none⟩ = some (int i64 m.c.la) /\ w'.cell? ⟨p, 3, none⟩ = some (int i64 m.c.wi) /\ w'.cell? ⟨p, 4, none⟩ = some (int i64 m.c.ke) /\ w'.cell? ⟨p, 5, none⟩ = some (int i64 m.c.qu) /\ w'.cell? ⟨p, 6, none⟩ = some (.slice a m.c.n cap) /\ w'.cell? ⟨p, 12, none⟩ = some (int i64 m.epoch)) (go_keep) (first
  | (go_at_call 52; (first | refine (ud HN1).mono ?_ | refine (ud HN0).mono ?_); rintro e X0 ⟨q, tq, rfl, hr0, hb0⟩; have hbX : Below w.heap.size w X0 := ⟨hb0.os, hb0.tape, hb0.output, hb0.size, hb0.block⟩; clear hb0; have HRX0 := zab (show zbk w.heap.size X0 q ⟨m.c, 0, [], [], [], [], m.epoch, 0⟩ tq (.slice none 0 0) (.slice none 0 0) (.slice none 0 0) (.slice none 0 0) from hr0); clear hr0; have d0 := (hbX.cell (p := ⟨p, 0, none⟩) hp).trans c0; have d1 := (hbX.cell (p := ⟨p, 1, none⟩) hp).trans c1; have d2 := (hbX.cell (p := ⟨p, 2, none⟩) hp).trans c2; have d3 := (hbX.cell (p := ⟨p, 3, none⟩) hp).trans c3; have d4 := (hbX.cell (p := ⟨p, 4, none⟩) hp).trans c4; have d5 := (hbX.cell (p := ⟨p, 5, none⟩) hp).trans c5; have d6 := (hbX.cell (p := ⟨p, 6, none⟩) hp).trans c6; have d12 := (hbX.cell (p := ⟨p, 12, none⟩) hp).trans r12))
 have HQ := zab (ud HRX0).base
 obtain ⟨m7, m8, m9, m10, m11, m12, m13⟩ := ((ud HM).later hbX).rest
 obtain ⟨r7, r8, r9, r10, r11, r12', r13⟩ := (ud HRX0).rest
 have rf : ∀ j, X0.frozen? ⟨q, j, none⟩ = false := fun j => zaz (ud HRX0).head j
 have hne : ¬ p = q := by have := ud HQ; omega
 have hne2 : ¬ q = p := fun h => hne h.symm
 clear c0 c1 c2 c3 c4 c5 c6 d0 d1 d2 d3 d4 d5 d6 d12 r8 r9 r10 r11 r12 r12' m8 m9 m10 m11 m12
 go_wp2_with fail
 have HRX1 := zab (((ud HRX0).setNow m.now).putPicks m.picks)
 have HWX1 := zab ((hbX.setCell (p := ⟨q, 7, none⟩) (ud HQ) (int i64 m.now)).setCell (p := ⟨q, 13, none⟩) (ud HQ) (int i64 m.picks))
 generalize ((X0.setCell ⟨q, 7, none⟩ (int i64 m.now)).setCell ⟨q, 13, none⟩ (int i64 m.picks)) = X1 at *
 clear hbX m7 m13 r7 r13 rf
 obtain ⟨r7, r8, r9, r10, r11, r12, r13⟩ := (ud HRX1).rest
 obtain ⟨m7, m8, m9, m10, m11, m12, m13⟩ := ((ud HM).later (ud HWX1)).rest
 have hqx := (ud HRX1).lt
 have hpx := ((ud HM).later (ud HWX1)).lt
 have HSRC := zab (((ud HM).later (ud HWX1).drew).nrow)
 have h63 : m.nums.length <= maxLen := by simp only [maxLen]; omega
 have hby : m.nums.length * 24 <= 140737488355328 := by omega
 clear r7 r9 r10 r11 r12 r13 m7 m9 m10 m11 m12 m13
 go_wp2_with fail
 rename_i K1 aK1
 have cont1 : ∀ (a1 : Option Addr) (c1 : Nat) (Y1 : World), Hid (zbk w.heap.size Y1 q { (⟨m.c, 0, [], [], [], [], m.epoch, 0⟩ : RM) with now := m.now, picks := m.picks } tq (.slice none 0 0) (.slice none 0 0) (.slice none 0 0) (.slice none 0 0)) -> Hid (Y1.ownsRow w.heap.size 269 3 (.slice a1 m.nums.length c1) m.nums.length (m.nums.flatMap nmV)) -> Hid (Below w.heap.size w Y1) -> K1 { tmps := #[.pointer (some ⟨p, 0, none⟩), undef, .pointer none, .pointer (some ⟨q, 0, none⟩), .pointer (some ⟨p, 0, none⟩), .pointer (some ⟨p, 0, none⟩), .pointer (some ⟨p, 0, none⟩), .agg #[int i64 m.c.s, int i64 m.c.le, int i64 m.c.la, int i64 m.c.wi, int i64 m.c.ke, int i64 m.c.qu, .slice a m.c.n cap], .pointer (some ⟨p, 0, none⟩), .pointer (some ⟨p, 0, none⟩), .pointer (some ⟨p, 12, none⟩), int i64 m.epoch, .pointer (some ⟨q, 0, none⟩), .pointer (some ⟨q, 0, none⟩), .pointer (some ⟨p, 0, none⟩), .pointer (some ⟨p, 0, none⟩), .pointer (some ⟨p, 7, none⟩), int i64 m.now, .pointer (some ⟨q, 0, none⟩), .pointer (some ⟨q, 7, none⟩), .pointer (some ⟨q, 0, none⟩), .pointer (some ⟨p, 0, none⟩), .pointer (some ⟨p, 0, none⟩), .pointer (some ⟨p, 13, none⟩), int i64 m.picks, .pointer (some ⟨q, 0, none⟩), .pointer (some ⟨q, 13, none⟩), .pointer (some ⟨q, 0, none⟩), .pointer (some ⟨q, 0, none⟩), .pointer (some ⟨q, 0, none⟩), .pointer (some ⟨q, 8, none⟩), .slice none 0 0, .pointer (some ⟨p, 0, none⟩), .pointer (some ⟨p, 0, none⟩), .pointer (some ⟨p, 8, none⟩), nv, .slice a1 m.nums.length c1, .pointer (some ⟨q, 0, none⟩), .pointer (some ⟨q, 8, none⟩), undef, undef, undef, undef, undef, undef, undef, undef, undef, undef, undef, undef, undef, undef, undef, undef, undef, undef, undef, undef, undef, undef, undef, undef, undef, undef, undef, undef, undef, undef, undef, undef, undef, undef, undef, undef, undef], defers := [] } (Y1.setCell ⟨q, 8, none⟩ (.slice a1 m.nums.length c1)) := by
  intro a1 c1 Y1 HR1 HO1 HW1
  refine aK1 _ _ ?_
  clear aK1 hqx hpx HSRC h63 hby r8 m8
  have HRX2 := zab ((ud HR1).putNums (ud HO1))
  have HWX2 := zab ((ud HW1).setCell (p := ⟨q, 8, none⟩) (ud HQ) (.slice a1 m.nums.length c1))
  generalize (Y1.setCell ⟨q, 8, none⟩ (.slice a1 m.nums.length c1)) = X2 at *
  obtain ⟨r7, r8, r9, r10, r11, r12, r13⟩ := (ud HRX2).rest
  obtain ⟨m7, m8, m9, m10, m11, m12, m13⟩ := ((ud HM).later (ud HWX2)).rest
  have hqx := (ud HRX2).lt
  have hpx := ((ud HM).later (ud HWX2)).lt
  have HSRC := zab (((ud HM).later (ud HWX2).drew).prow)
  have h63 : m.pub.length <= maxLen := by simp only [maxLen]; omega
  have hby : m.pub.length * 24 <= 140737488355328 := by omega
  clear r7 r8 r10 r11 r12 r13 m7 m8 m10 m11 m12 m13
  go_wp2_with fail
  rename_i K2 aK2
  have cont2 : ∀ (a2 : Option Addr) (c2 : Nat) (Y2 : World), Hid (zbk w.heap.size Y2 q { (⟨m.c, 0, [], [], [], [], m.epoch, 0⟩ : RM) with now := m.now, picks := m.picks, nums := m.nums } tq (.slice a1 m.nums.length c1) (.slice none 0 0) (.slice none 0 0) (.slice none 0 0)) -> Hid (Y2.ownsRow w.heap.size 232 3 (.slice a2 m.pub.length c2) m.pub.length (m.pub.flatMap sgV)) -> Hid (Below w.heap.size w Y2) -> K2 { tmps := #[.pointer (some ⟨p, 0, none⟩), undef, .pointer none, .pointer (some ⟨q, 0, none⟩), .pointer (some ⟨p, 0, none⟩), .pointer (some ⟨p, 0, none⟩), .pointer (some ⟨p, 0, none⟩), .agg #[int i64 m.c.s, int i64 m.c.le, int i64 m.c.la, int i64 m.c.wi, int i64 m.c.ke, int i64 m.c.qu, .slice a m.c.n cap], .pointer (some ⟨p, 0, none⟩), .pointer (some ⟨p, 0, none⟩), .pointer (some ⟨p, 12, none⟩), int i64 m.epoch, .pointer (some ⟨q, 0, none⟩), .pointer (some ⟨q, 0, none⟩), .pointer (some ⟨p, 0, none⟩), .pointer (some ⟨p, 0, none⟩), .pointer (some ⟨p, 7, none⟩), int i64 m.now, .pointer (some ⟨q, 0, none⟩), .pointer (some ⟨q, 7, none⟩), .pointer (some ⟨q, 0, none⟩), .pointer (some ⟨p, 0, none⟩), .pointer (some ⟨p, 0, none⟩), .pointer (some ⟨p, 13, none⟩), int i64 m.picks, .pointer (some ⟨q, 0, none⟩), .pointer (some ⟨q, 13, none⟩), .pointer (some ⟨q, 0, none⟩), .pointer (some ⟨q, 0, none⟩), .pointer (some ⟨q, 0, none⟩), .pointer (some ⟨q, 8, none⟩), .slice none 0 0, .pointer (some ⟨p, 0, none⟩), .pointer (some ⟨p, 0, none⟩), .pointer (some ⟨p, 8, none⟩), nv, .slice a1 m.nums.length c1, .pointer (some ⟨q, 0, none⟩), .pointer (some ⟨q, 8, none⟩), .pointer (some ⟨q, 0, none⟩), .pointer (some ⟨q, 0, none⟩), .pointer (some ⟨q, 0, none⟩), .pointer (some ⟨q, 9, none⟩), .slice none 0 0, .pointer (some ⟨p, 0, none⟩), .pointer (some ⟨p, 0, none⟩), .pointer (some ⟨p, 9, none⟩), pv, .slice a2 m.pub.length c2, .pointer (some ⟨q, 0, none⟩), .pointer (some ⟨q, 9, none⟩), undef, undef, undef, undef, undef, undef, undef, undef, undef, undef, undef, undef, undef, undef, undef, undef, undef, undef, undef, undef, undef, undef, undef, undef, undef], defers := [] } (Y2.setCell ⟨q, 9, none⟩ (.slice a2 m.pub.length c2)) := by
   intro a2 c2 Y2 HR2 HO2 HW2
   refine aK2 _ _ ?_
   clear aK2 hqx hpx HSRC h63 hby r9 m9
   have HRX3 := zab ((ud HR2).putPub (ud HO2))
   have HWX3 := zab ((ud HW2).setCell (p := ⟨q, 9, none⟩) (ud HQ) (.slice a2 m.pub.length c2))
   generalize (Y2.setCell ⟨q, 9, none⟩ (.slice a2 m.pub.length c2)) = X3 at *
   obtain ⟨r7, r8, r9, r10, r11, r12, r13⟩ := (ud HRX3).rest
   obtain ⟨m7, m8, m9, m10, m11, m12, m13⟩ := ((ud HM).later (ud HWX3)).rest
   have hqx := (ud HRX3).lt
   have hpx := ((ud HM).later (ud HWX3)).lt
   have HSRC := zab (((ud HM).later (ud HWX3).drew).grow)
   have h63 : m.gone.length <= maxLen := by simp only [maxLen]; omega
   have hby : m.gone.length * 24 <= 140737488355328 := by omega
   clear r7 r8 r9 r11 r12 r13 m7 m8 m9 m11 m12 m13
   go_wp2_with fail
   rename_i K3 aK3
   have cont3 : ∀ (a3 : Option Addr) (c3 : Nat) (Y3 : World), Hid (zbk w.heap.size Y3 q { (⟨m.c, 0, [], [], [], [], m.epoch, 0⟩ : RM) with now := m.now, picks := m.picks, nums := m.nums, pub := m.pub } tq (.slice a1 m.nums.length c1) (.slice a2 m.pub.length c2) (.slice none 0 0) (.slice none 0 0)) -> Hid (Y3.ownsRow w.heap.size 232 3 (.slice a3 m.gone.length c3) m.gone.length (m.gone.flatMap sgV)) -> Hid (Below w.heap.size w Y3) -> Hid (∀ k, (Value.slice a2 m.pub.length c2).ownBlock = some k -> ¬ (Value.slice a3 m.gone.length c3).ownBlock = some k) -> K3 { tmps := #[.pointer (some ⟨p, 0, none⟩), undef, .pointer none, .pointer (some ⟨q, 0, none⟩), .pointer (some ⟨p, 0, none⟩), .pointer (some ⟨p, 0, none⟩), .pointer (some ⟨p, 0, none⟩), .agg #[int i64 m.c.s, int i64 m.c.le, int i64 m.c.la, int i64 m.c.wi, int i64 m.c.ke, int i64 m.c.qu, .slice a m.c.n cap], .pointer (some ⟨p, 0, none⟩), .pointer (some ⟨p, 0, none⟩), .pointer (some ⟨p, 12, none⟩), int i64 m.epoch, .pointer (some ⟨q, 0, none⟩), .pointer (some ⟨q, 0, none⟩), .pointer (some ⟨p, 0, none⟩), .pointer (some ⟨p, 0, none⟩), .pointer (some ⟨p, 7, none⟩), int i64 m.now, .pointer (some ⟨q, 0, none⟩), .pointer (some ⟨q, 7, none⟩), .pointer (some ⟨q, 0, none⟩), .pointer (some ⟨p, 0, none⟩), .pointer (some ⟨p, 0, none⟩), .pointer (some ⟨p, 13, none⟩), int i64 m.picks, .pointer (some ⟨q, 0, none⟩), .pointer (some ⟨q, 13, none⟩), .pointer (some ⟨q, 0, none⟩), .pointer (some ⟨q, 0, none⟩), .pointer (some ⟨q, 0, none⟩), .pointer (some ⟨q, 8, none⟩), .slice none 0 0, .pointer (some ⟨p, 0, none⟩), .pointer (some ⟨p, 0, none⟩), .pointer (some ⟨p, 8, none⟩), nv, .slice a1 m.nums.length c1, .pointer (some ⟨q, 0, none⟩), .pointer (some ⟨q, 8, none⟩), .pointer (some ⟨q, 0, none⟩), .pointer (some ⟨q, 0, none⟩), .pointer (some ⟨q, 0, none⟩), .pointer (some ⟨q, 9, none⟩), .slice none 0 0, .pointer (some ⟨p, 0, none⟩), .pointer (some ⟨p, 0, none⟩), .pointer (some ⟨p, 9, none⟩), pv, .slice a2 m.pub.length c2, .pointer (some ⟨q, 0, none⟩), .pointer (some ⟨q, 9, none⟩), .pointer (some ⟨q, 0, none⟩), .pointer (some ⟨q, 0, none⟩), .pointer (some ⟨q, 0, none⟩), .pointer (some ⟨q, 10, none⟩), .slice none 0 0, .pointer (some ⟨p, 0, none⟩), .pointer (some ⟨p, 0, none⟩), .pointer (some ⟨p, 10, none⟩), gv, .slice a3 m.gone.length c3, .pointer (some ⟨q, 0, none⟩), .pointer (some ⟨q, 10, none⟩), undef, undef, undef, undef, undef, undef, undef, undef, undef, undef, undef, undef, undef], defers := [] } (Y3.setCell ⟨q, 10, none⟩ (.slice a3 m.gone.length c3)) := by
    intro a3 c3 Y3 HR3 HO3 HW3 HAP3
    refine aK3 _ _ ?_
    clear aK3 hqx hpx HSRC h63 hby r10 m10
    have HRX4 := zab ((ud HR3).putGone (ud HO3))
    have HWX4 := zab ((ud HW3).setCell (p := ⟨q, 10, none⟩) (ud HQ) (.slice a3 m.gone.length c3))
    generalize (Y3.setCell ⟨q, 10, none⟩ (.slice a3 m.gone.length c3)) = X4 at *
    obtain ⟨r7, r8, r9, r10, r11, r12, r13⟩ := (ud HRX4).rest
    obtain ⟨m7, m8, m9, m10, m11, m12, m13⟩ := ((ud HM).later (ud HWX4)).rest
    have hqx := (ud HRX4).lt
    have hpx := ((ud HM).later (ud HWX4)).lt
    have HSRC := zab (((ud HM).later (ud HWX4).drew).krow)
    have h63 : m.tasks.length <= maxLen := by simp only [maxLen]; omega
    have hby : m.tasks.length * 88 <= 140737488355328 := by omega
    clear r7 r8 r9 r10 r12 r13 m7 m8 m9 m10 m12 m13
    go_wp2_with fail
    rename_i K4 aK4
    have cont4 : ∀ (a4 : Option Addr) (c4 : Nat) (Y4 : World), Hid (zbk w.heap.size Y4 q { (⟨m.c, 0, [], [], [], [], m.epoch, 0⟩ : RM) with now := m.now, picks := m.picks, nums := m.nums, pub := m.pub, gone := m.gone } tq (.slice a1 m.nums.length c1) (.slice a2 m.pub.length c2) (.slice a3 m.gone.length c3) (.slice none 0 0)) -> Hid (Y4.ownsRow w.heap.size 239 11 (.slice a4 m.tasks.length c4) m.tasks.length (m.tasks.flatMap tkV)) -> Hid (Below w.heap.size w Y4) -> K4 { tmps := #[.pointer (some ⟨p, 0, none⟩), undef, .pointer none, .pointer (some ⟨q, 0, none⟩), .pointer (some ⟨p, 0, none⟩), .pointer (some ⟨p, 0, none⟩), .pointer (some ⟨p, 0, none⟩), .agg #[int i64 m.c.s, int i64 m.c.le, int i64 m.c.la, int i64 m.c.wi, int i64 m.c.ke, int i64 m.c.qu, .slice a m.c.n cap], .pointer (some ⟨p, 0, none⟩), .pointer (some ⟨p, 0, none⟩), .pointer (some ⟨p, 12, none⟩), int i64 m.epoch, .pointer (some ⟨q, 0, none⟩), .pointer (some ⟨q, 0, none⟩), .pointer (some ⟨p, 0, none⟩), .pointer (some ⟨p, 0, none⟩), .pointer (some ⟨p, 7, none⟩), int i64 m.now, .pointer (some ⟨q, 0, none⟩), .pointer (some ⟨q, 7, none⟩), .pointer (some ⟨q, 0, none⟩), .pointer (some ⟨p, 0, none⟩), .pointer (some ⟨p, 0, none⟩), .pointer (some ⟨p, 13, none⟩), int i64 m.picks, .pointer (some ⟨q, 0, none⟩), .pointer (some ⟨q, 13, none⟩), .pointer (some ⟨q, 0, none⟩), .pointer (some ⟨q, 0, none⟩), .pointer (some ⟨q, 0, none⟩), .pointer (some ⟨q, 8, none⟩), .slice none 0 0, .pointer (some ⟨p, 0, none⟩), .pointer (some ⟨p, 0, none⟩), .pointer (some ⟨p, 8, none⟩), nv, .slice a1 m.nums.length c1, .pointer (some ⟨q, 0, none⟩), .pointer (some ⟨q, 8, none⟩), .pointer (some ⟨q, 0, none⟩), .pointer (some ⟨q, 0, none⟩), .pointer (some ⟨q, 0, none⟩), .pointer (some ⟨q, 9, none⟩), .slice none 0 0, .pointer (some ⟨p, 0, none⟩), .pointer (some ⟨p, 0, none⟩), .pointer (some ⟨p, 9, none⟩), pv, .slice a2 m.pub.length c2, .pointer (some ⟨q, 0, none⟩), .pointer (some ⟨q, 9, none⟩), .pointer (some ⟨q, 0, none⟩), .pointer (some ⟨q, 0, none⟩), .pointer (some ⟨q, 0, none⟩), .pointer (some ⟨q, 10, none⟩), .slice none 0 0, .pointer (some ⟨p, 0, none⟩), .pointer (some ⟨p, 0, none⟩), .pointer (some ⟨p, 10, none⟩), gv, .slice a3 m.gone.length c3, .pointer (some ⟨q, 0, none⟩), .pointer (some ⟨q, 10, none⟩), .pointer (some ⟨q, 0, none⟩), .pointer (some ⟨q, 0, none⟩), .pointer (some ⟨q, 0, none⟩), .pointer (some ⟨q, 11, none⟩), .slice none 0 0, .pointer (some ⟨p, 0, none⟩), .pointer (some ⟨p, 0, none⟩), .pointer (some ⟨p, 11, none⟩), kv, .slice a4 m.tasks.length c4, .pointer (some ⟨q, 0, none⟩), .pointer (some ⟨q, 11, none⟩), undef], defers := [] } (Y4.setCell ⟨q, 11, none⟩ (.slice a4 m.tasks.length c4)) := by
     intro a4 c4 Y4 HR4 HO4 HW4
     refine aK4 _ _ ?_
     clear aK4 hqx hpx HSRC h63 hby r11 m11
     have HRX5 := zab ((ud HR4).setTasks (ud HO4))
     have HWX5 := zab ((ud HW4).setCell (p := ⟨q, 11, none⟩) (ud HQ) (.slice a4 m.tasks.length c4))
     generalize (Y4.setCell ⟨q, 11, none⟩ (.slice a4 m.tasks.length c4)) = X5 at *
     go_wp2_with fail
     go_ret
     exact ⟨q, rfl, ⟨_, _, _, _, _, ud HRX5, ud HWX5, ud HAP3⟩⟩
    clear aK4
    go_region_law (refine zem rfl (.tmp 67) (.tmp 71) 188 rfl 239 _ 11 88 Tryz.underlying188 Tryz.infoTask rfl (by decide) B kv m.tasks.length (m.tasks.flatMap tkV) (by simp [Act.eval]) (by simp [Act.eval]) (ud HSRC) (flat_one tkV_one _) h63 hby ?_; intro a4 c4 Y4 ho4 hb40; have hb4 : Below X4.heap.size X4 Y4 := ⟨hb40.os, hb40.tape, hb40.output, hb40.size, hb40.block⟩; clear hb40; have HR4 := zab ((ud HRX4).later hb4); have HO4 := zab (owns_base2 (base' := w.heap.size) ho4 (ud HWX4).size); have HW4 := zab ((ud HWX4).trans (hb4.mono (ud HWX4).size)); clear ho4; have rf : ∀ j, Y4.frozen? ⟨q, j, none⟩ = false := (fun j => zaz (ud HR4).head j); have yq := (hb4.cell (p := ⟨q, 11, none⟩) hqx).trans r11; have yp := (hb4.cell (p := ⟨p, 11, none⟩) hpx).trans m11; clear hb4)
    all_goals exact cont4 _ _ _ HR4 HO4 HW4
   clear aK3
   go_region_law (refine zem rfl (.tmp 55) (.tmp 59) 187 rfl 232 _ 3 24 Tryz.underlying187 Tryz.infoSegment rfl (by decide) B gv m.gone.length (m.gone.flatMap sgV) (by simp [Act.eval]) (by simp [Act.eval]) (ud HSRC) (flat_one sgV_one _) h63 hby ?_; intro a3 c3 Y3 ho3 hb30; have hb3 : Below X3.heap.size X3 Y3 := ⟨hb30.os, hb30.tape, hb30.output, hb30.size, hb30.block⟩; clear hb30; have HR3 := zab ((ud HRX3).later hb3); have HO3 := zab (owns_base2 (base' := w.heap.size) ho3 (ud HWX3).size); have HW3 := zab ((ud HWX3).trans (hb3.mono (ud HWX3).size)); have HAP3 : Hid (∀ k, (Value.slice a2 m.pub.length c2).ownBlock = some k -> ¬ (Value.slice a3 m.gone.length c3).ownBlock = some k) := (fun k e1 e2 => by have z1 := ((ud HRX3).prow.lt k e1).2; have z2 : X3.heap.size <= k := (ho3.lt k e2).1; omega); clear ho3; have rf : ∀ j, Y3.frozen? ⟨q, j, none⟩ = false := (fun j => zaz (ud HR3).head j); have yq := (hb3.cell (p := ⟨q, 10, none⟩) hqx).trans r10; have yp := (hb3.cell (p := ⟨p, 10, none⟩) hpx).trans m10; clear hb3)
   all_goals exact cont3 _ _ _ HR3 HO3 HW3 HAP3
  clear aK2
  go_region_law (refine zem rfl (.tmp 43) (.tmp 47) 187 rfl 232 _ 3 24 Tryz.underlying187 Tryz.infoSegment rfl (by decide) B pv m.pub.length (m.pub.flatMap sgV) (by simp [Act.eval]) (by simp [Act.eval]) (ud HSRC) (flat_one sgV_one _) h63 hby ?_; intro a2 c2 Y2 ho2 hb20; have hb2 : Below X2.heap.size X2 Y2 := ⟨hb20.os, hb20.tape, hb20.output, hb20.size, hb20.block⟩; clear hb20; have HR2 := zab ((ud HRX2).later hb2); have HO2 := zab (owns_base2 (base' := w.heap.size) ho2 (ud HWX2).size); have HW2 := zab ((ud HWX2).trans (hb2.mono (ud HWX2).size)); clear ho2; have rf : ∀ j, Y2.frozen? ⟨q, j, none⟩ = false := (fun j => zaz (ud HR2).head j); have yq := (hb2.cell (p := ⟨q, 9, none⟩) hqx).trans r9; have yp := (hb2.cell (p := ⟨p, 9, none⟩) hpx).trans m9; clear hb2)
  all_goals exact cont2 _ _ _ HR2 HO2 HW2
 clear aK1
 go_region_law (refine zem rfl (.tmp 31) (.tmp 35) 186 rfl 269 _ 3 24 Tryz.underlying186 Tryz.infoNumber rfl (by decide) B nv m.nums.length (m.nums.flatMap nmV) (by simp [Act.eval]) (by simp [Act.eval]) (ud HSRC) (flat_one nmV_one _) h63 hby ?_; intro a1 c1 Y1 ho1 hb10; have hb1 : Below X1.heap.size X1 Y1 := ⟨hb10.os, hb10.tape, hb10.output, hb10.size, hb10.block⟩; clear hb10; have HR1 := zab ((ud HRX1).later hb1); have HO1 := zab (owns_base2 (base' := w.heap.size) ho1 (ud HWX1).size); have HW1 := zab ((ud HWX1).trans (hb1.mono (ud HWX1).size)); clear ho1; have rf : ∀ j, Y1.frozen? ⟨q, j, none⟩ = false := (fun j => zaz (ud HR1).head j); have yq := (hb1.cell (p := ⟨q, 8, none⟩) hqx).trans r8; have yp := (hb1.cell (p := ⟨p, 8, none⟩) hpx).trans m8; clear hb1)
 all_goals exact cont1 _ _ _ HR1 HO1 HW1
end Go.Proofs.YtpbimdkclnekeaaGreat
