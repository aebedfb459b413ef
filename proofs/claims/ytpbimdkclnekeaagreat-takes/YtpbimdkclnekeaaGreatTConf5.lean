import Derived.Test.YtpbimdkclnekeaaGreatTConf4
import Derived.Test.YtpbimdkclnekeaaGreatTLater

namespace Go.Proofs.YtpbimdkclnekeaaGreat
open Value (int)
open IntKind (i64)
open Go.RowKit
theorem Tryz.infoTier : (Tryz.prog.info? 66).map (fun i => (i.zero, i.size, i.bytes)) = some (some (.agg #[int i64 0, int i64 0, int i64 0]), 3, 24) := by kernel_rfl
def newTiers (n : Nat) : Array Value := madeCells #[int i64 0, int i64 0, int i64 0] ((n + 1) * 3)
theorem size_newTiers (n : Nat) : (newTiers n).size = (n + 1) * 3 := size_madeCells _ _
theorem make_tiers (n : Nat) (hb : 24 * (n + 1) <= 281474976710656) (wx : World) :
  (Instr.makeSlice 25 (int i64 ((n : Int) + 1)) (int i64 ((n : Int) + 1))).run Tryz.prog wx = .ok (.slice (some ⟨wx.heap.size, 0, none⟩) (n + 1) (n + 1)) (wx.alloc (.cells (newTiers n) 66)) := by
 have hi := Tryz.infoTier
 cases hq : Tryz.prog.info? 66 with
 | none => simp [hq] at hi
 | some i =>
  simp only [hq, Option.map_some, Option.some.injEq, Prod.mk.injEq] at hi
  obtain ⟨hz, hs, hbt⟩ := hi
  have hr := run_make (P := Tryz.prog) wx 25 66 i _ Tryz.underlying25 hq hz .i64 .i64 ((n : Int) + 1) ((n : Int) + 1) (by omega) (by omega) (by rw [hbt]; omega) (by omega)
  rw [hr, hs]
  have e : ((n : Int) + 1).toNat = n + 1 := by omega
  rw [e]; rfl
theorem cell_of_block {w : World} {g : Nat} {cs : Array Value} {t : TypeId} {fr : Nat × Nat} (h : w.heap[g]? = some (.cells cs t fr)) (i : Nat) : w.cell? ⟨g, i, none⟩ = cs[i]? := by simp [World.cell?, h]
theorem unfrozen_of_block {w : World} {g : Nat} {cs : Array Value} {t : TypeId} (h : w.heap[g]? = some (.cells cs t (0, 0))) (i : Nat) : w.frozen? ⟨g, i, none⟩ = false := by simp [World.frozen?, h]
theorem TS.cells {w : World} {a : Option Addr} {n : Nat} {F W K : Nat -> Int} (h : TS w a n F W K) : 0 < (row3 n F W K).length -> ∃ ad, a = some ad /\ ∀ j v, (row3 n F W K)[j]? = some v -> w.cell? (ad.add j) = some v := by
 intro h0
 rw [zbu] at h0
 obtain ⟨b, off, rfl, _, hc⟩ := h (by omega)
 refine ⟨_, rfl, fun j v hv => ?_⟩
 have hj : j < n * 3 := by
  have := (List.getElem?_eq_some_iff.1 hv).1; rwa [zbu] at this
 rw [row3_get n F W K j hj] at hv
 cases hv
 have hadd : (⟨b, off, none⟩ : Addr).add j = ⟨b, off + j, none⟩ := by unfold Addr.add; split <;> simp_all
 rw [hadd]
 obtain ⟨c0, c1, c2⟩ := hc (j / 3) (by omega)
 rcases (show j % 3 = 0 \/ j % 3 = 1 \/ j % 3 = 2 by omega) with e | e | e
 ·have ej : j = j / 3 * 3 := by omega
  rw [ej, cell3_0]; exact c0
 ·have ej : j = j / 3 * 3 + 1 := by omega
  rw [ej, cell3_1]; exact c1
 ·have ej : j = j / 3 * 3 + 2 := by omega
  rw [ej, cell3_2]; exact c2
theorem TS.of_row {w : World} {g n : Nat} {F W K : Nat -> Int} {r : List Value} {t : TypeId} {fr : Nat × Nat} (hg : w.heap[g]? = some (.cells (row3 n F W K ++ r).toArray t fr)) : TS w (some ⟨g, 0, none⟩) n F W K := fun _ => by
 have hlt : g < w.heap.size := (Array.getElem?_eq_some_iff.1 hg).1
 refine ⟨g, 0, rfl, hlt, fun i hi => ?_⟩
 have e : ∀ j, j < n * 3 -> w.cell? ⟨g, j, none⟩ = some (cell3 F W K j) := fun j hj => by
  simp only [World.cell?, hg]
  simp [List.getElem?_append_left (show j < (row3 n F W K).length by rw [zbu]; exact hj), row3_get n F W K j hj]
 simp only [Nat.zero_add]
 refine ⟨?_, ?_, ?_⟩
 ·rw [e _ (by omega), cell3_0]
 ·rw [e _ (by omega), cell3_1]
 ·rw [e _ (by omega), cell3_2]
theorem TS.setCell {w : World} {g off n : Nat} {F W K : Nat -> Int} (h : TS w (some ⟨g, off, none⟩) n F W K) (o : Nat) (v : Value) (ho : off + n * 3 <= o) : TS (w.setCell ⟨g, o, none⟩ v) (some ⟨g, off, none⟩) n F W K := fun h0 => by
 obtain ⟨b, off', e, hlt, hc⟩ := h h0
 cases e
 refine ⟨g, off, rfl, by simpa [World.setCell] using hlt, fun i hi => ?_⟩
 have hne : ∀ o', o' < o -> (w.setCell ⟨g, o, none⟩ v).cell? ⟨g, o', none⟩ = w.cell? ⟨g, o', none⟩ := fun o' h' => World.cell?_setCell_other _ _ _ _ (by intro e; cases e; exact absurd h' (Nat.lt_irrefl _))
 rw [hne _ (by omega), hne _ (by omega), hne _ (by omega)]
 exact hc i hi
end Go.Proofs.YtpbimdkclnekeaaGreat
