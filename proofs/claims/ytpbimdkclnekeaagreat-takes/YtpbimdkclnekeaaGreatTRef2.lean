import Derived.Test.YtpbimdkclnekeaaGreatTOpen
import Derived.Test.YtpbimdkclnekeaaGreatTLater

namespace Go.Proofs.YtpbimdkclnekeaaGreat
open Value (int)
open IntKind (i64)
open Go.RowKit
set_option linter.unusedVariables false
structure zbk (B : Nat) (w : World) (p : Nat) (m : RM) (tv nv pv gv kv : Value) : Prop where
 head : w.heap[p]? = some (.cells #[int i64 m.c.s, int i64 m.c.le, int i64 m.c.la, int i64 m.c.wi, int i64 m.c.ke, int i64 m.c.qu, tv, int i64 m.now, nv, pv, gv, kv, int i64 m.epoch, int i64 m.picks] 190 (0, 0))
 base : B <= p
 trow : w.ownsRow B 66 3 tv m.c.n (row3 m.c.n m.c.F m.c.W m.c.K)
 nrow : w.ownsRow B 269 3 nv m.nums.length (m.nums.flatMap nmV)
 prow : w.ownsRow B 232 3 pv m.pub.length (m.pub.flatMap sgV)
 grow : w.ownsRow B 232 3 gv m.gone.length (m.gone.flatMap sgV)
 krow : w.ownsRow B 239 11 kv m.tasks.length (m.tasks.flatMap tkV)
section
variable {B : Nat} {w : World} {p : Nat} {m : RM} {tv nv pv gv kv : Value}
def rfoot (p : Nat) (tv nv pv gv kv : Value) (k : Nat) : Prop := k = p \/ tv.ownBlock = some k \/ nv.ownBlock = some k \/ pv.ownBlock = some k \/ gv.ownBlock = some k \/ kv.ownBlock = some k
theorem zbk.kept {f : Nat -> Prop} {w' : World} (h : zbk B w p m tv nv pv gv kv) (hk : zan f w w') (hn : ∀ k, rfoot p tv nv pv gv kv k -> ¬ f k) : zbk B w' p m tv nv pv gv kv :=
 ⟨hk.heap h.head (hn p (.inl rfl)), h.base, zae h.trow hk (fun k hh => hn k (.inr (.inl hh))), zae h.nrow hk (fun k hh => hn k (.inr (.inr (.inl hh)))), zae h.prow hk (fun k hh => hn k (.inr (.inr (.inr (.inl hh))))), zae h.grow hk (fun k hh => hn k (.inr (.inr (.inr (.inr (.inl hh)))))), zae h.krow hk (fun k hh => hn k (.inr (.inr (.inr (.inr (.inr hh))))))⟩
theorem zbk.later {w' : World} (h : zbk B w p m tv nv pv gv kv) (hb : Below w.heap.size w w') : zbk B w' p m tv nv pv gv kv :=
 h.kept (f := fun _ => False) (zan.of_below hb) (fun _ _ hh => hh)
theorem zbk.lt (h : zbk B w p m tv nv pv gv kv) : p < w.heap.size := zaa h.head
theorem zbk.conf (h : zbk B w p m tv nv pv gv kv) : w.cell? ⟨p, 0, none⟩ = some (int i64 m.c.s) /\ w.cell? ⟨p, 1, none⟩ = some (int i64 m.c.le) /\ w.cell? ⟨p, 2, none⟩ = some (int i64 m.c.la) /\ w.cell? ⟨p, 3, none⟩ = some (int i64 m.c.wi) /\ w.cell? ⟨p, 4, none⟩ = some (int i64 m.c.ke) /\ w.cell? ⟨p, 5, none⟩ = some (int i64 m.c.qu) /\ w.cell? ⟨p, 6, none⟩ = some tv := by
 refine ⟨?_, ?_, ?_, ?_, ?_, ?_, ?_⟩ <;> rw [zac h.head] <;> rfl
theorem zbk.rest (h : zbk B w p m tv nv pv gv kv) : w.cell? ⟨p, 7, none⟩ = some (int i64 m.now) /\ w.cell? ⟨p, 8, none⟩ = some nv /\ w.cell? ⟨p, 9, none⟩ = some pv /\ w.cell? ⟨p, 10, none⟩ = some gv /\ w.cell? ⟨p, 11, none⟩ = some kv /\ w.cell? ⟨p, 12, none⟩ = some (int i64 m.epoch) /\ w.cell? ⟨p, 13, none⟩ = some (int i64 m.picks) := by
 refine ⟨?_, ?_, ?_, ?_, ?_, ?_, ?_⟩ <;> rw [zac h.head] <;> rfl
end
theorem TS.of_owns {w : World} {B : Nat} {e : TypeId} {a : Option Addr} {n cap : Nat} {F W K : Nat -> Int} (h : w.ownsRow B e 3 (.slice a n cap) n (row3 n F W K)) : TS w a n F W K := fun h0 => by
 obtain ⟨g, cap', hv, hb, hlt⟩ := h.form h0
 cases hv
 refine ⟨g, 0, rfl, hlt, fun i hi => ?_⟩
 have e : ∀ j, j < n * 3 -> w.cell? ⟨g, j, none⟩ = some (cell3 F W K j) := fun j hj => by
  rw [h.cellAt _ hj, row3_get n F W K j hj]
 refine ⟨?_, ?_, ?_⟩
 ·rw [e _ (by omega)]; simp [cell3]
 ·have h1 : (i * 3 + 1) / 3 = i := by omega
  rw [e _ (by omega)]; simp [cell3, Nat.add_mod, h1]
 ·have h1 : (i * 3 + 2) / 3 = i := by omega
  rw [e _ (by omega)]; simp [cell3, Nat.add_mod, h1]
theorem box2 (w : World) (o1 o2 : Obj) : ((w.alloc o1).alloc o2).heap[w.heap.size]? = some o1 /\ ((w.alloc o1).alloc o2).heap[w.heap.size + 1]? = some o2 /\ Below w.heap.size w ((w.alloc o1).alloc o2) /\ ((w.alloc o1).alloc o2).heap.size = w.heap.size + 2 := by
 refine ⟨(Below.heap_alloc _ _ _ (by simp)).trans (zap _ _), by have := zap (w.alloc o1) o2; rw [zbd] at this; exact this, ((Below.refl _ _).alloc (Nat.le_refl _) _).alloc (by simp) _, by simp⟩
theorem zbz {w : World} {g i : Nat} {cs : Array Value} {t : TypeId} {fr : Nat × Nat} (h : w.heap[g]? = some (.cells cs t fr)) (v : Value) : (w.setCell ⟨g, i, none⟩ v).heap[g]? = some (.cells (cs.setIfInBounds i v) t fr) := by
 rw [setCell_eq_setRow w g i cs t fr v h]
 exact setRow_heap w g _ _ t _ h
theorem set3 {w : World} {g : Nat} {a b c : Value} {t : TypeId} {fr : Nat × Nat} (h : w.heap[g]? = some (.cells #[a, b, c] t fr)) (x y z : Value) : ((((w.setCell ⟨g, 0, none⟩ x).setCell ⟨g, 1, none⟩ y).setCell ⟨g, 2, none⟩ z).drew).heap[g]? = some (.cells #[x, y, z] t fr) := by
 have := zbz (i := 2) (zbz (i := 1) (zbz (i := 0) h x) y) z
 exact this
theorem ret_sg {a b c a' b' c' : Int} (h1 : a = a') (h2 : b = b') (h3 : c = c') : Ending.returned (.agg #[int i64 a, int i64 b, int i64 c]) = .returned (.agg #[int i64 a', int i64 b', int i64 c']) := by rw [h1, h2, h3]
set_option maxHeartbeats 1000000 in
theorem segment_any {B : Nat} {w : World} {p : Nat} {m : RM} {tv nv pv gv kv : Value} (h : zbk B w p m tv nv pv gv kv) (hc : m.c.ok) (t : Int) (ht1 : -1 <= t) (ht2 : t < m.c.n) (x : Nm) (hx : x.ok) :
  Calls Tryz.prog 198 #[.pointer (some ⟨p, 0, none⟩), int i64 t, .agg #[int i64 x.ser, int i64 x.tm, .int .i32 x.val]] w fun e w' => e = .returned (.agg #[int i64 (zar m.c t x).t, int i64 (zar m.c t x).ser, int i64 (zar m.c t x).win]) /\ Below w.heap.size w w' := by
 obtain ⟨a, cap, htv⟩ := zah h.trow
 subst htv
 have hp := h.lt
 have hts := TS.of_owns h.trow
 obtain ⟨c0, c1, c2, c3, c4, c5, c6⟩ := h.conf
 obtain ⟨hw1, hw2⟩ := hc.width ht1 ht2
 have hn4 := hc.n4
 obtain ⟨hx1, hx2, hx3, hx4, hx5, hx6⟩ := hx
 have HW : Hid (zbr m.c.wi m.c.W t = m.c.width t) := rfl
 have HR : Hid ((zar m.c t x).win = x.tm / m.c.width t) := rfl
 have HR1 : Hid ((zar m.c t x).t = t) := rfl
 have HR2 : Hid ((zar m.c t x).ser = x.ser) := rfl
 obtain ⟨b1, b2, hbw, bz⟩ := box2 w (.cells #[int i64 x.ser, int i64 x.tm, .int .i32 x.val] 269) (.cells #[int i64 0, int i64 0, int i64 0] 232)
 have B1 := zab b1
 have B2 := zab b2
 have BZ := zab bz
 clear h b1 b2 bz
 go_enter Tryz.func198, Tryz.ntmps198
 go_wp2_with (go_at_call 101; refine (Width_any _ _ _ _ _ _ _ _ cap m.c.F m.c.W m.c.K t ht1 ht2 hn4 _ (hts.below hbw)).mono ?_; rintro e w1 ⟨rfl, hb1⟩; rw [ud HW])
 have e1 := (hb1.block w.heap.size (by rw [ud BZ]; omega)).trans (ud B1)
 have e2 := (hb1.block (w.heap.size + 1) (by rw [ud BZ]; omega)).trans (ud B2)
 have z0 : w1.cell? ⟨w.heap.size, 0, none⟩ = some (int i64 x.ser) := by rw [zac e1]; rfl
 have z1 : w1.cell? ⟨w.heap.size, 1, none⟩ = some (int i64 x.tm) := by rw [zac e1]; rfl
 have y0 : w1.cell? ⟨w.heap.size + 1, 0, none⟩ = some (int i64 0) := by rw [zac e2]; rfl
 have y1 : w1.cell? ⟨w.heap.size + 1, 1, none⟩ = some (int i64 0) := by rw [zac e2]; rfl
 have y2 : w1.cell? ⟨w.heap.size + 1, 2, none⟩ = some (int i64 0) := by rw [zac e2]; rfl
 have y3 := fun j => zaz e2 j
 have E2 := zab e2
 clear e1 e2
 go_region
 go_wp2_with fail
 have hf := set3 (ud E2) (int i64 t) (int i64 x.ser) (int i64 (x.tm / m.c.width t))
 have hb3 : Below w.heap.size w1 ((((w1.setCell ⟨w.heap.size + 1, 0, none⟩ (int i64 t)).setCell ⟨w.heap.size + 1, 1, none⟩ (int i64 x.ser)).setCell ⟨w.heap.size + 1, 2, none⟩ (int i64 (x.tm / m.c.width t))).drew) := ((((Below.refl _ _).setCell (p := ⟨w.heap.size + 1, 0, none⟩) (show w.heap.size <= w.heap.size + 1 by omega) _).setCell (p := ⟨w.heap.size + 1, 1, none⟩) (show w.heap.size <= w.heap.size + 1 by omega) _).setCell (p := ⟨w.heap.size + 1, 2, none⟩) (show w.heap.size <= w.heap.size + 1 by omega) _).drew
 refine bodyPost_ret (v := .agg #[int i64 t, int i64 x.ser, int i64 (x.tm / m.c.width t)]) (results_cell_row Tryz.results198 _ _ (w.heap.size + 1) _ _ _ _ rfl hf Tryz.underlying232 rfl (by kernel_rfl)) rfl ?_
 exact ⟨ret_sg (ud HR1).symm (ud HR2).symm (ud HR).symm, hbw.trans ((hb1.mono hbw.size).trans hb3)⟩
end Go.Proofs.YtpbimdkclnekeaaGreat
