import Derived.Test.YtpbimdkclnekeaaGreatKBrd3
import Derived.Test.YtpbimdkclnekeaaGreatKJn1
import Derived.Test.YtpbimdkclnekeaaGreatKItr1
import Derived.Test.YtpbimdkclnekeaaGreatKLater
import Derived.Test.YtpbimdkclnekeaaGreatKMod2
import Derived.Shelf.SlSortCmp.NoneTotal
import Derived.Test.YtpbimdkclnekeaaGreatKZet7
import Derived.Test.YtpbimdkclnekeaaGreatKKit0

namespace Go.Proofs.YtpbimdkclnekeaaGreat
open Value (int)
open IntKind (i64)
open Go.RowKit Go.Maps Go.Shelf
open Go.ChangeMaps (setBlock)
set_option linter.unusedVariables false
theorem row11 {w : World} {g : Nat} {a0 a1 a2 a3 a4 a5 a6 a7 a8 a9 a10 : Value} {t : TypeId} {fr : Nat × Nat} (h : w.heap[g]? = some (.cells #[a0, a1, a2, a3, a4, a5, a6, a7, a8, a9, a10] t fr)) (b0 b1 b2 b3 b4 b5 b6 b7 b8 b9 b10 : Value) : (((((((((((w.setCell ⟨g, 0, none⟩ b0).setCell ⟨g, 1, none⟩ b1).setCell ⟨g, 2, none⟩ b2).setCell ⟨g, 3, none⟩ b3).setCell ⟨g, 4, none⟩ b4).setCell ⟨g, 5, none⟩ b5).setCell ⟨g, 6, none⟩ b6).setCell ⟨g, 7, none⟩ b7).setCell ⟨g, 8, none⟩ b8).setCell ⟨g, 9, none⟩ b9).setCell ⟨g, 10, none⟩ b10).heap[g]? = some (.cells #[b0, b1, b2, b3, b4, b5, b6, b7, b8, b9, b10] t fr) := by
 have h0 : (w.setCell ⟨g, 0, none⟩ b0).heap[g]? = some (.cells #[b0, a1, a2, a3, a4, a5, a6, a7, a8, a9, a10] t fr) := zcu (i := 0) h b0
 have h1 : ((w.setCell ⟨g, 0, none⟩ b0).setCell ⟨g, 1, none⟩ b1).heap[g]? = some (.cells #[b0, b1, a2, a3, a4, a5, a6, a7, a8, a9, a10] t fr) := zcu (i := 1) h0 b1
 have h2 : (((w.setCell ⟨g, 0, none⟩ b0).setCell ⟨g, 1, none⟩ b1).setCell ⟨g, 2, none⟩ b2).heap[g]? = some (.cells #[b0, b1, b2, a3, a4, a5, a6, a7, a8, a9, a10] t fr) := zcu (i := 2) h1 b2
 have h3 : ((((w.setCell ⟨g, 0, none⟩ b0).setCell ⟨g, 1, none⟩ b1).setCell ⟨g, 2, none⟩ b2).setCell ⟨g, 3, none⟩ b3).heap[g]? = some (.cells #[b0, b1, b2, b3, a4, a5, a6, a7, a8, a9, a10] t fr) := zcu (i := 3) h2 b3
 have h4 : (((((w.setCell ⟨g, 0, none⟩ b0).setCell ⟨g, 1, none⟩ b1).setCell ⟨g, 2, none⟩ b2).setCell ⟨g, 3, none⟩ b3).setCell ⟨g, 4, none⟩ b4).heap[g]? = some (.cells #[b0, b1, b2, b3, b4, a5, a6, a7, a8, a9, a10] t fr) := zcu (i := 4) h3 b4
 have h5 : ((((((w.setCell ⟨g, 0, none⟩ b0).setCell ⟨g, 1, none⟩ b1).setCell ⟨g, 2, none⟩ b2).setCell ⟨g, 3, none⟩ b3).setCell ⟨g, 4, none⟩ b4).setCell ⟨g, 5, none⟩ b5).heap[g]? = some (.cells #[b0, b1, b2, b3, b4, b5, a6, a7, a8, a9, a10] t fr) := zcu (i := 5) h4 b5
 have h6 : (((((((w.setCell ⟨g, 0, none⟩ b0).setCell ⟨g, 1, none⟩ b1).setCell ⟨g, 2, none⟩ b2).setCell ⟨g, 3, none⟩ b3).setCell ⟨g, 4, none⟩ b4).setCell ⟨g, 5, none⟩ b5).setCell ⟨g, 6, none⟩ b6).heap[g]? = some (.cells #[b0, b1, b2, b3, b4, b5, b6, a7, a8, a9, a10] t fr) := zcu (i := 6) h5 b6
 have h7 : ((((((((w.setCell ⟨g, 0, none⟩ b0).setCell ⟨g, 1, none⟩ b1).setCell ⟨g, 2, none⟩ b2).setCell ⟨g, 3, none⟩ b3).setCell ⟨g, 4, none⟩ b4).setCell ⟨g, 5, none⟩ b5).setCell ⟨g, 6, none⟩ b6).setCell ⟨g, 7, none⟩ b7).heap[g]? = some (.cells #[b0, b1, b2, b3, b4, b5, b6, b7, a8, a9, a10] t fr) := zcu (i := 7) h6 b7
 have h8 : (((((((((w.setCell ⟨g, 0, none⟩ b0).setCell ⟨g, 1, none⟩ b1).setCell ⟨g, 2, none⟩ b2).setCell ⟨g, 3, none⟩ b3).setCell ⟨g, 4, none⟩ b4).setCell ⟨g, 5, none⟩ b5).setCell ⟨g, 6, none⟩ b6).setCell ⟨g, 7, none⟩ b7).setCell ⟨g, 8, none⟩ b8).heap[g]? = some (.cells #[b0, b1, b2, b3, b4, b5, b6, b7, b8, a9, a10] t fr) := zcu (i := 8) h7 b8
 have h9 : ((((((((((w.setCell ⟨g, 0, none⟩ b0).setCell ⟨g, 1, none⟩ b1).setCell ⟨g, 2, none⟩ b2).setCell ⟨g, 3, none⟩ b3).setCell ⟨g, 4, none⟩ b4).setCell ⟨g, 5, none⟩ b5).setCell ⟨g, 6, none⟩ b6).setCell ⟨g, 7, none⟩ b7).setCell ⟨g, 8, none⟩ b8).setCell ⟨g, 9, none⟩ b9).heap[g]? = some (.cells #[b0, b1, b2, b3, b4, b5, b6, b7, b8, b9, a10] t fr) := zcu (i := 9) h8 b9
 have h10 : (((((((((((w.setCell ⟨g, 0, none⟩ b0).setCell ⟨g, 1, none⟩ b1).setCell ⟨g, 2, none⟩ b2).setCell ⟨g, 3, none⟩ b3).setCell ⟨g, 4, none⟩ b4).setCell ⟨g, 5, none⟩ b5).setCell ⟨g, 6, none⟩ b6).setCell ⟨g, 7, none⟩ b7).setCell ⟨g, 8, none⟩ b8).setCell ⟨g, 9, none⟩ b9).setCell ⟨g, 10, none⟩ b10).heap[g]? = some (.cells #[b0, b1, b2, b3, b4, b5, b6, b7, b8, b9, b10] t fr) := zcu (i := 10) h9 b10
 exact h10
theorem below11 {B : Nat} {w : World} {g : Nat} (hg : B <= g) (b0 b1 b2 b3 b4 b5 b6 b7 b8 b9 b10 : Value) : Below B w (((((((((((w.setCell ⟨g, 0, none⟩ b0).setCell ⟨g, 1, none⟩ b1).setCell ⟨g, 2, none⟩ b2).setCell ⟨g, 3, none⟩ b3).setCell ⟨g, 4, none⟩ b4).setCell ⟨g, 5, none⟩ b5).setCell ⟨g, 6, none⟩ b6).setCell ⟨g, 7, none⟩ b7).setCell ⟨g, 8, none⟩ b8).setCell ⟨g, 9, none⟩ b9).setCell ⟨g, 10, none⟩ b10) := ((((((((((((Below.refl _ _).setCell (p := ⟨g, 0, none⟩) hg b0).setCell (p := ⟨g, 1, none⟩) hg b1).setCell (p := ⟨g, 2, none⟩) hg b2).setCell (p := ⟨g, 3, none⟩) hg b3).setCell (p := ⟨g, 4, none⟩) hg b4).setCell (p := ⟨g, 5, none⟩) hg b5).setCell (p := ⟨g, 6, none⟩) hg b6).setCell (p := ⟨g, 7, none⟩) hg b7).setCell (p := ⟨g, 8, none⟩) hg b8).setCell (p := ⟨g, 9, none⟩) hg b9).setCell (p := ⟨g, 10, none⟩) hg b10)
theorem drew_far (w : World) (p : Addr) : w.drew.cell? p = w.cell? p := rfl
theorem zan {w : World} {g i k j : Nat} {v : Value} (h : ¬ k = g) : (w.setCell ⟨g, i, none⟩ v).cell? ⟨k, j, none⟩ = w.cell? ⟨k, j, none⟩ := by
 have := zay (w := w) (g := g) (i := i) (k := k) (v := v) h
 simp only [World.cell?, this]
def outObj (x : Tsk) (o : Tok × Int × Int) : Obj := .cells #[int i64 x.kd, int i64 x.s.t, int i64 x.s.ser, int i64 x.s.win, int i64 x.since, int i64 x.tries, int i64 x.rest, int i64 o.1.ep, int i64 o.1.num, int i64 o.2.1, int i64 o.2.2] 51 (0, 0)
theorem rset4 {w : World} {g : Nat} {x : Tsk} {o : Tok × Int × Int} (h : w.heap[g]? = some (outObj x o)) (a b c d : Int) : ((((w.setCell ⟨g, 7, none⟩ (int i64 a)).setCell ⟨g, 8, none⟩ (int i64 b)).setCell ⟨g, 9, none⟩ (int i64 c)).setCell ⟨g, 10, none⟩ (int i64 d)).heap[g]? = some (outObj x (⟨a, b⟩, c, d)) :=
 zcu (i := 10) (zcu (i := 9) (zcu (i := 8) (zcu (i := 7) h (int i64 a)) (int i64 b)) (int i64 c)) (int i64 d)
theorem kept4 {w V : World} {g : Nat} (h : zaj (fun k => k = g) w V) (a b c d : Value) : zaj (fun k => k = g) w ((((V.setCell ⟨g, 7, none⟩ a).setCell ⟨g, 8, none⟩ b).setCell ⟨g, 9, none⟩ c).setCell ⟨g, 10, none⟩ d) :=
 zae (zae (zae (zae h rfl) rfl) rfl) rfl
set_option maxRecDepth 8000 in
set_option maxHeartbeats 4000000 in
theorem tell_any {w : World} {b : Nat} {c : Cf} {tv : Value} {ep num : Int} {tb qb : Nat} {TL : List (Jk × Tsk)} {QL : List (Tok × Lse)} (h : zav w b c tv ep num tb qb TL QL) (x : Tsk) (t : Tok) (g : Lse) (hg : (t, g) ∈ QL) (hj : g.job = x.key) (hu : ∀ p ∈ QL, p.2.job = x.key -> p = (t, g)) :
  Calls Tryz.prog 89 #[.pointer (some ⟨b, 0, none⟩), .agg #[.iface x.jt (.agg #[int i64 x.s.t, int i64 x.s.ser, int i64 x.s.win]), int i64 x.since, int i64 x.tries, int i64 x.rest]] w fun e w' => e = .returned (.agg #[int i64 x.kd, int i64 x.s.t, int i64 x.s.ser, int i64 x.s.win, int i64 x.since, int i64 x.tries, int i64 x.rest, int i64 t.ep, int i64 t.num, int i64 g.slot, int i64 g.til]) /\ Below w.heap.size w w' := by
 have hbl := h.lt
 have c10 := h.cell10
 obtain ⟨y0, y1, hbw, yz⟩ := box2 w (.cells #[.iface x.jt (.agg #[int i64 x.s.t, int i64 x.s.ser, int i64 x.s.win]), int i64 x.since, int i64 x.tries, int i64 x.rest] 162) (.cells #[int i64 0, int i64 0, int i64 0, int i64 0, int i64 0, int i64 0, int i64 0, int i64 0, int i64 0, int i64 0, int i64 0] 51)
 have HKO := zac (keyOf_any x ((w.alloc (.cells #[.iface x.jt (.agg #[int i64 x.s.t, int i64 x.s.ser, int i64 x.s.win]), int i64 x.since, int i64 x.tries, int i64 x.rest] 162)).alloc (.cells #[int i64 0, int i64 0, int i64 0, int i64 0, int i64 0, int i64 0, int i64 0, int i64 0, int i64 0, int i64 0, int i64 0] 51)))
 have H := zac h
 have Y0 := zac y0
 have Y1 := zac y1
 have HBW := zac hbw
 have YZ := zac yz
 clear h y0 y1 hbw yz
 go_enter Tryz.func89, Tryz.ntmps89
 go_wp2_with fail
 refine (ud HKO).mono ?_
 rintro e V1 ⟨rfl, hb1⟩
 have hz1 := hb1.size
 have yz := ud YZ
 have t0 := (hb1.block _ (by omega)).trans (ud Y0)
 have r0 := (hb1.block _ (by omega)).trans (ud Y1)
 have hb2 := (ud HBW).trans (hb1.mono (ud HBW).size)
 have hB1 := (ud H).later hb2
 have d10 := hB1.cell10
 have hbV := hB1.lt
 have ht0 := zaa t0
 have hr0 := zaa r0
 have s1 : V1.cell? ⟨w.heap.size, 1, none⟩ = some (int i64 x.since) := by rw [zab t0]; rfl
 have s2 : V1.cell? ⟨w.heap.size, 2, none⟩ = some (int i64 x.tries) := by rw [zab t0]; rfl
 have s3 : V1.cell? ⟨w.heap.size, 3, none⟩ = some (int i64 x.rest) := by rw [zab t0]; rfl
 have R0 := zac r0
 have HB2 := zac hb2
 have HBD := zac hB1
 clear hb1 yz t0 r0 hb2 hB1 c10 Y0 Y1 HBW YZ HKO
 --LOOP
 obtain ⟨es, clock, hqe, hqm⟩ := (ud HBD).leases
 obtain ⟨v0, v1, hb3, vz⟩ := box2 V1 (.cells #[int i64 x.kd, int i64 x.s.t, int i64 x.s.ser, int i64 x.s.win] 147) (.cells #[int i64 x.kd, int i64 x.s.t, int i64 x.s.ser, int i64 x.s.win, int i64 x.since, int i64 x.tries, int i64 x.rest, int i64 0, int i64 0, int i64 (-1), int i64 0] 51)
 have hq2 := (hb3.block _ (zaa hqe)).trans hqe
 have hrange := run_range_map (P := Tryz.prog) ((V1.alloc (.cells #[int i64 x.kd, int i64 x.s.t, int i64 x.s.ser, int i64 x.s.win] 147)).alloc (.cells #[int i64 x.kd, int i64 x.s.t, int i64 x.s.ser, int i64 x.s.win, int i64 x.since, int i64 x.tries, int i64 x.rest, int i64 0, int i64 0, int i64 (-1), int i64 0] 51)) 153 _ _ qb es clock Tryz.underlying153 hq2
 have HHV := zac (And.intro v0 (And.intro v1 (And.intro hb3 (And.intro vz (And.intro hq2 hqm)))))
 have hqV := zaa hqe
 clear hqe hqm v0 v1 hb3 vz hq2
 go_wp2_with fail
 obtain ⟨v0, v1, hb3, vz, hq2, hqm⟩ := ud HHV
 generalize ((V1.alloc (.cells #[int i64 x.kd, int i64 x.s.t, int i64 x.s.ser, int i64 x.s.win] 147)).alloc (.cells #[int i64 x.kd, int i64 x.s.t, int i64 x.s.ser, int i64 x.s.win, int i64 x.since, int i64 x.tries, int i64 x.rest, int i64 0, int i64 0, int i64 (-1), int i64 0] 51)) = W2 at *
 have hr2 := (hb3.block _ hr0).trans (ud R0)
 have hV12 := hb3.size
 clear hrange d10 s1 s2 s3 HHV
 have HM := zac hqm
 have HQ2 := zac hq2
 have HV0 := zac v0
 have HB3 := zac hb3
 have HVZ := zac vz
 have HR2 := zac hr2
 go_loopw [7, 8] (fun _ _ wr => ∃ (seen : Array Nat) (c0 : Nat) (o : Tok × Int × Int), wr.heap[(V1.heap.size + 1 + 1)]? = some (.mapIter (some qb) clock seen c0) /\ clock <= c0 /\ wr.heap[qb]? = some (.map es clock) /\ wr.heap[V1.heap.size + 1]? = some (outObj x o) /\ (o = (t, g.slot, g.til) \/ ∀ e ∈ es.toList, e.born ∈ seen.toList -> e.key ≠ zfb t) /\ zaj (fun k => k = V1.heap.size + 1) W2 wr)
  (fun _ _ wr => leftAt es (V1.heap.size + 1 + 1) wr)
 case atStart =>
  have hb0 : Below W2.heap.size W2 (W2.alloc (.mapIter (some qb) clock #[] clock)) := (Below.refl _ _).alloc (Nat.le_refl _) _
  refine ⟨#[], clock, (⟨0, 0⟩, -1, 0), by have := zag W2 (.mapIter (some qb) clock #[] clock); rw [show W2.heap.size = (V1.heap.size + 1 + 1) from ud HVZ] at this; exact this, Nat.le_refl _, (hb0.block _ (zaa hq2)).trans hq2, (hb0.block _ (zaa v1)).trans v1, .inr (by simp), zaj.of_below hb0⟩
 case round =>
  obtain ⟨seen, c0, o, hr, hc0, hqr, hob, hdn, hK⟩ := hrel
  have hrl := zaa hr
  have hz2 : W2.heap.size = (V1.heap.size + 1 + 1) := ud HVZ
  rcases run_next_at (P := Tryz.prog) wr 0 (V1.heap.size + 1 + 1) qb clock c0 seen es clock hr hqr (ud HM).born hc0 with ⟨hz, hnext⟩ | ⟨e, hel, w1, hw1, hnext⟩
  ·have ho : o = (t, g.slot, g.til) := by
    rcases hdn with hdn | hdn
    ·exact hdn
    ·exfalso
     obtain ⟨z, hz1, hk1, _⟩ := ents_of (ud HM) hg
     refine hdn z hz1 ?_ hk1
     by_cases hs : z.born ∈ seen.toList
     ·exact hs
     ·have : z ∈ (leftOf es seen).toList := zcn.2 ⟨hz1, hs⟩
      rw [Array.eq_empty_of_size_eq_zero hz] at this
      simp at this
   subst ho
   have hrz := hK.heap (k := w.heap.size + 1) (ud HR2) (by omega)
   have hob' : wr.heap[V1.heap.size + 1]? = some (.cells #[int i64 x.kd, int i64 x.s.t, int i64 x.s.ser, int i64 x.s.win, int i64 x.since, int i64 x.tries, int i64 x.rest, int i64 t.ep, int i64 t.num, int i64 g.slot, int i64 g.til] 51 (0, 0)) := hob
   have o0 : wr.cell? ⟨V1.heap.size + 1, 0, none⟩ = some (int i64 x.kd) := by rw [zab hob']; rfl
   have o1 : wr.cell? ⟨V1.heap.size + 1, 1, none⟩ = some (int i64 x.s.t) := by rw [zab hob']; rfl
   have o2 : wr.cell? ⟨V1.heap.size + 1, 2, none⟩ = some (int i64 x.s.ser) := by rw [zab hob']; rfl
   have o3 : wr.cell? ⟨V1.heap.size + 1, 3, none⟩ = some (int i64 x.s.win) := by rw [zab hob']; rfl
   have o4 : wr.cell? ⟨V1.heap.size + 1, 4, none⟩ = some (int i64 x.since) := by rw [zab hob']; rfl
   have o5 : wr.cell? ⟨V1.heap.size + 1, 5, none⟩ = some (int i64 x.tries) := by rw [zab hob']; rfl
   have o6 : wr.cell? ⟨V1.heap.size + 1, 6, none⟩ = some (int i64 x.rest) := by rw [zab hob']; rfl
   have o7 : wr.cell? ⟨V1.heap.size + 1, 7, none⟩ = some (int i64 t.ep) := by rw [zab hob']; rfl
   have o8 : wr.cell? ⟨V1.heap.size + 1, 8, none⟩ = some (int i64 t.num) := by rw [zab hob']; rfl
   have o9 : wr.cell? ⟨V1.heap.size + 1, 9, none⟩ = some (int i64 g.slot) := by rw [zab hob']; rfl
   have o10 : wr.cell? ⟨V1.heap.size + 1, 10, none⟩ = some (int i64 g.til) := by rw [zab hob']; rfl
   have z0 : wr.cell? ⟨w.heap.size + 1, 0, none⟩ = some (int i64 0) := by rw [zab hrz]; rfl
   have z1 : wr.cell? ⟨w.heap.size + 1, 1, none⟩ = some (int i64 0) := by rw [zab hrz]; rfl
   have z2 : wr.cell? ⟨w.heap.size + 1, 2, none⟩ = some (int i64 0) := by rw [zab hrz]; rfl
   have z3 : wr.cell? ⟨w.heap.size + 1, 3, none⟩ = some (int i64 0) := by rw [zab hrz]; rfl
   have z4 : wr.cell? ⟨w.heap.size + 1, 4, none⟩ = some (int i64 0) := by rw [zab hrz]; rfl
   have z5 : wr.cell? ⟨w.heap.size + 1, 5, none⟩ = some (int i64 0) := by rw [zab hrz]; rfl
   have z6 : wr.cell? ⟨w.heap.size + 1, 6, none⟩ = some (int i64 0) := by rw [zab hrz]; rfl
   have z7 : wr.cell? ⟨w.heap.size + 1, 7, none⟩ = some (int i64 0) := by rw [zab hrz]; rfl
   have z8 : wr.cell? ⟨w.heap.size + 1, 8, none⟩ = some (int i64 0) := by rw [zab hrz]; rfl
   have z9 : wr.cell? ⟨w.heap.size + 1, 9, none⟩ = some (int i64 0) := by rw [zab hrz]; rfl
   have z10 : wr.cell? ⟨w.heap.size + 1, 10, none⟩ = some (int i64 0) := by rw [zab hrz]; rfl
   have zf := fun j => zax hrz j
   have hlz := zaa hrz
   have hlo := zaa hob'
   have hneb : ¬ V1.heap.size + 1 = w.heap.size + 1 := by omega
   have HKK := zac hK
   have HRZ := zac hrz
   clear hz2
   clear hz hob hob' hK hrz hr hqr hc0 hdn
   go_wp2_with fail
   have hf := row11 (ud HRZ) (int i64 x.kd) (int i64 x.s.t) (int i64 x.s.ser) (int i64 x.s.win) (int i64 x.since) (int i64 x.tries) (int i64 x.rest) (int i64 t.ep) (int i64 t.num) (int i64 g.slot) (int i64 g.til)
   have hk := ud HKK
   have hbk : Below w.heap.size W2 wr := ⟨hk.os, hk.tape, hk.output, hk.size, fun j hj => hk.block j (by have := ud HVZ; omega) (by omega)⟩
   have hbb := (ud HB2).trans (((ud HB3).mono (by omega)).trans hbk)
   refine bodyPost_ret (v := .agg #[int i64 x.kd, int i64 x.s.t, int i64 x.s.ser, int i64 x.s.win, int i64 x.since, int i64 x.tries, int i64 x.rest, int i64 t.ep, int i64 t.num, int i64 g.slot, int i64 g.til]) (results_cell_row Tryz.results89 _ _ (w.heap.size + 1) _ _ _ _ rfl hf Tryz.underlying51 rfl (by kernel_rfl)) rfl ?_
   exact ⟨rfl, hbb.trans (below11 (Nat.le_succ _) (int i64 x.kd) (int i64 x.s.t) (int i64 x.s.ser) (int i64 x.s.win) (int i64 x.since) (int i64 x.tries) (int i64 x.rest) (int i64 t.ep) (int i64 t.num) (int i64 g.slot) (int i64 g.til))⟩
  ·have HEL := zac hel
   obtain ⟨hee, hns⟩ := zcn.1 hel
   have hr1 : w1.heap[(V1.heap.size + 1 + 1)]? = some (.mapIter (some qb) clock seen c0) := by rcases hw1 with rfl | rfl <;> exact hr
   have hq1 : w1.heap[qb]? = some (.map es clock) := by rcases hw1 with rfl | rfl <;> exact hqr
   have ho1 : w1.heap[V1.heap.size + 1]? = some (outObj x o) := by rcases hw1 with rfl | rfl <;> exact hob
   have hne : qb ≠ (V1.heap.size + 1 + 1) := by omega
   obtain ⟨X, hX⟩ : ∃ X, setBlock w1 (V1.heap.size + 1 + 1) (.mapIter (some qb) clock (seen.push e.born) clock) = X := ⟨_, rfl⟩
   have hXr : X.heap[(V1.heap.size + 1 + 1)]? = some (.mapIter (some qb) clock (seen.push e.born) clock) := by rw [<- hX]; exact zcv (zaa hr1) _
   have hXb : X.heap[qb]? = some (.map es clock) := by rw [<- hX, zcq hne]; exact hq1
   have hXo : X.heap[V1.heap.size + 1]? = some (outObj x o) := by rw [<- hX, zcq (by omega)]; exact ho1
   have hkX : zaj (fun k => k = (V1.heap.size + 1 + 1)) wr X := by
    rw [<- hX]; rcases hw1 with rfl | rfl
    ·exact zdr _
    ·exact (zaj.refl (fun k => k = (V1.heap.size + 1 + 1)) wr).drew.trans (zdr _) (fun _ _ h => h)
   have hKX : zaj (fun k => k = V1.heap.size + 1) W2 X := hK.trans hkX (fun i hi e => by omega)
   rw [hX] at hnext
   have hent := run_entry_at (P := Tryz.prog) X (V1.heap.size + 1 + 1) qb clock seen es clock e hXr hXb hee (ud HM).once
   obtain ⟨hdm, hk, hv⟩ := dec_at zfa (ud HM) hee
   obtain ⟨⟨t', y⟩, hy0⟩ : ∃ y, decE zch QL e = y := ⟨_, rfl⟩
   rw [hy0] at hdm hk hv
   have hkey : e.key = zfb t' := hk
   have hval : e.val = lseVal y := hv
   have HKEY := zac hkey
   unfold zfb at hkey
   unfold lseVal at hval
   rw [hkey, hval] at hnext hent
   have hXl := zaa hXr
   have hkX0 := hKX.heap (ud HV0) (by omega)
   have kc0 : X.cell? ⟨V1.heap.size, 0, none⟩ = some (int i64 x.kd) := by rw [zab hkX0]; rfl
   have kc1 : X.cell? ⟨V1.heap.size, 1, none⟩ = some (int i64 x.s.t) := by rw [zab hkX0]; rfl
   have kc2 : X.cell? ⟨V1.heap.size, 2, none⟩ = some (int i64 x.s.ser) := by rw [zab hkX0]; rfl
   have kc3 : X.cell? ⟨V1.heap.size, 3, none⟩ = some (int i64 x.s.win) := by rw [zab hkX0]; rfl
   have hkl := zaa hkX0
   have hol := zaa hXo
   have heq := fun W => eq_jk2 ⟨y.kd, y.s⟩ x.key W
   have hxo : X.heap[V1.heap.size + 1]? = some (.cells #[int i64 x.kd, int i64 x.s.t, int i64 x.s.ser, int i64 x.s.win, int i64 x.since, int i64 x.tries, int i64 x.rest, int i64 o.1.ep, int i64 o.1.num, int i64 o.2.1, int i64 o.2.2] 51 (0, 0)) := hXo
   have q7 : X.cell? ⟨V1.heap.size + 1, 7, none⟩ = some (int i64 o.1.ep) := by rw [zab hxo]; rfl
   have q8 : X.cell? ⟨V1.heap.size + 1, 8, none⟩ = some (int i64 o.1.num) := by rw [zab hxo]; rfl
   have q9 : X.cell? ⟨V1.heap.size + 1, 9, none⟩ = some (int i64 o.2.1) := by rw [zab hxo]; rfl
   have q10 : X.cell? ⟨V1.heap.size + 1, 10, none⟩ = some (int i64 o.2.2) := by rw [zab hxo]; rfl
   have qf := fun j => zax hxo j
   have HP := zac (And.intro hXr (And.intro hXb (And.intro hXo (And.intro hKX (And.intro hdn (And.intro hee (And.intro hdm hr)))))))
   have hV : Below X.heap.size X ((X.alloc (.cells #[int i64 t'.ep, int i64 t'.num] 49)).alloc (.cells #[int i64 y.kd, int i64 y.s.t, int i64 y.s.ser, int i64 y.s.win, int i64 y.slot, int i64 y.til] 149)) := ((Below.refl _ _).alloc (Nat.le_refl _) _).alloc ((Below.refl _ _).alloc (Nat.le_refl _) _).size _
   have HV := zac hV
   have hd0 : decide ((⟨y.kd, y.s⟩ : Jk) = x.key) = true \/ decide ((⟨y.kd, y.s⟩ : Jk) = x.key) = false := by cases decide ((⟨y.kd, y.s⟩ : Jk) = x.key) <;> simp
   clear hz2
   clear hr1 hq1 ho1 hX hw1 hk hv hy0 hel hee hns hkey hval hqr hXr hXb hXo hKX hkX hK hob hr hc0 hdn hxo hkX0 hV
   rcases hd0 with hd0 | hd0
   ·have hpe := hu (t', y) hdm (by have := of_decide_eq_true hd0; exact this)
    injection hpe with e1 e2
    subst e1 e2
    simp only [hd0] at heq
    dsimp only [Tsk.key] at heq
    clear hd0 hdm
    go_wp2_with fail
    obtain ⟨z0, z1, zb, zz⟩ := box2 X (.cells #[int i64 t'.ep, int i64 t'.num] 49) (.cells #[int i64 y.kd, int i64 y.s.t, int i64 y.s.ser, int i64 y.s.win, int i64 y.slot, int i64 y.til] 149)
    have tc0 : ((X.alloc (.cells #[int i64 t'.ep, int i64 t'.num] 49)).alloc (.cells #[int i64 y.kd, int i64 y.s.t, int i64 y.s.ser, int i64 y.s.win, int i64 y.slot, int i64 y.til] 149)).cell? ⟨X.heap.size, 0, none⟩ = some (int i64 t'.ep) := by rw [zab z0]; rfl
    have tc1 : ((X.alloc (.cells #[int i64 t'.ep, int i64 t'.num] 49)).alloc (.cells #[int i64 y.kd, int i64 y.s.t, int i64 y.s.ser, int i64 y.s.win, int i64 y.slot, int i64 y.til] 149)).cell? ⟨X.heap.size, 1, none⟩ = some (int i64 t'.num) := by rw [zab z0]; rfl
    have lc4 : ((X.alloc (.cells #[int i64 t'.ep, int i64 t'.num] 49)).alloc (.cells #[int i64 y.kd, int i64 y.s.t, int i64 y.s.ser, int i64 y.s.win, int i64 y.slot, int i64 y.til] 149)).cell? ⟨X.heap.size + 1, 4, none⟩ = some (int i64 y.slot) := by rw [zab z1]; rfl
    have lc5 : ((X.alloc (.cells #[int i64 t'.ep, int i64 t'.num] 49)).alloc (.cells #[int i64 y.kd, int i64 y.s.t, int i64 y.s.ser, int i64 y.s.win, int i64 y.slot, int i64 y.til] 149)).cell? ⟨X.heap.size + 1, 5, none⟩ = some (int i64 y.til) := by rw [zab z1]; rfl
    have oc7 := (zb.cell (p := ⟨V1.heap.size + 1, 7, none⟩) hol).trans q7
    have oc8 := (zb.cell (p := ⟨V1.heap.size + 1, 8, none⟩) hol).trans q8
    have oc9 := (zb.cell (p := ⟨V1.heap.size + 1, 9, none⟩) hol).trans q9
    have oc10 := (zb.cell (p := ⟨V1.heap.size + 1, 10, none⟩) hol).trans q10
    have ocf := fun j => zax (show ((X.alloc (.cells #[int i64 t'.ep, int i64 t'.num] 49)).alloc (.cells #[int i64 y.kd, int i64 y.s.t, int i64 y.s.ser, int i64 y.s.win, int i64 y.slot, int i64 y.til] 149)).heap[V1.heap.size + 1]? = some (.cells #[int i64 x.kd, int i64 x.s.t, int i64 x.s.ser, int i64 x.s.win, int i64 x.since, int i64 x.tries, int i64 x.rest, int i64 o.1.ep, int i64 o.1.num, int i64 o.2.1, int i64 o.2.2] 51 (0, 0)) from (zb.block _ hol).trans (ud HP).2.2.1) j
    have ne1 : ¬ X.heap.size = V1.heap.size + 1 := by omega
    have ne2 : ¬ X.heap.size + 1 = V1.heap.size + 1 := by omega
    have lz0 := zaa z0
    have lz1 := zaa z1
    have loz := Nat.lt_of_lt_of_le hol zb.size
    clear z0 z1 zb zz q7 q8 q9 q10 qf kc0 kc1 kc2 kc3 heq hnext hent
    have hXl' := hXl
    have hol' := hol
    generalize hVe : ((X.alloc (.cells #[int i64 t'.ep, int i64 t'.num] 49)).alloc (.cells #[int i64 y.kd, int i64 y.s.t, int i64 y.s.ser, int i64 y.s.win, int i64 y.slot, int i64 y.til] 149)) = V at *
    have HXL := zac hXl
    have HOL := zac hol
    have hqob : ¬ qb = V1.heap.size + 1 := by omega
    generalize htk : X.heap.size = tk at *
    have HTK := zac htk
    clear htk
    generalize hobe : V1.heap.size + 1 = ob at *
    have HOBE := zac hobe
    clear hobe
    have T00 : ((V.setCell ⟨ob, 7, none⟩ (int i64 t'.ep)).setCell ⟨ob, 8, none⟩ (int i64 t'.num)).drew.cell? ⟨tk, 0, none⟩ = some (int i64 t'.ep) := ((zan ne1).trans (zan ne1)).trans tc0
    have T01 : ((V.setCell ⟨ob, 7, none⟩ (int i64 t'.ep)).setCell ⟨ob, 8, none⟩ (int i64 t'.num)).drew.cell? ⟨tk, 1, none⟩ = some (int i64 t'.num) := ((zan ne1).trans (zan ne1)).trans tc1
    have T02 : ((V.setCell ⟨ob, 7, none⟩ (int i64 t'.ep)).setCell ⟨ob, 8, none⟩ (int i64 t'.num)).drew.cell? ⟨tk + 1, 4, none⟩ = some (int i64 y.slot) := ((zan ne2).trans (zan ne2)).trans lc4
    have T03 : ((V.setCell ⟨ob, 7, none⟩ (int i64 t'.ep)).setCell ⟨ob, 8, none⟩ (int i64 t'.num)).drew.cell? ⟨tk + 1, 5, none⟩ = some (int i64 y.til) := ((zan ne2).trans (zan ne2)).trans lc5
    have T10 : (((V.setCell ⟨ob, 7, none⟩ (int i64 t'.ep)).setCell ⟨ob, 8, none⟩ (int i64 t'.num)).setCell ⟨ob, 9, none⟩ (int i64 y.slot)).drew.cell? ⟨tk, 0, none⟩ = some (int i64 t'.ep) := ((zan ne1).trans ((zan ne1).trans (zan ne1))).trans tc0
    have T11 : (((V.setCell ⟨ob, 7, none⟩ (int i64 t'.ep)).setCell ⟨ob, 8, none⟩ (int i64 t'.num)).setCell ⟨ob, 9, none⟩ (int i64 y.slot)).drew.cell? ⟨tk, 1, none⟩ = some (int i64 t'.num) := ((zan ne1).trans ((zan ne1).trans (zan ne1))).trans tc1
    have T12 : (((V.setCell ⟨ob, 7, none⟩ (int i64 t'.ep)).setCell ⟨ob, 8, none⟩ (int i64 t'.num)).setCell ⟨ob, 9, none⟩ (int i64 y.slot)).drew.cell? ⟨tk + 1, 4, none⟩ = some (int i64 y.slot) := ((zan ne2).trans ((zan ne2).trans (zan ne2))).trans lc4
    have T13 : (((V.setCell ⟨ob, 7, none⟩ (int i64 t'.ep)).setCell ⟨ob, 8, none⟩ (int i64 t'.num)).setCell ⟨ob, 9, none⟩ (int i64 y.slot)).drew.cell? ⟨tk + 1, 5, none⟩ = some (int i64 y.til) := ((zan ne2).trans ((zan ne2).trans (zan ne2))).trans lc5
    have T20 : ((((V.setCell ⟨ob, 7, none⟩ (int i64 t'.ep)).setCell ⟨ob, 8, none⟩ (int i64 t'.num)).setCell ⟨ob, 9, none⟩ (int i64 y.slot)).setCell ⟨ob, 10, none⟩ (int i64 y.til)).drew.cell? ⟨tk, 0, none⟩ = some (int i64 t'.ep) := ((zan ne1).trans ((zan ne1).trans ((zan ne1).trans (zan ne1)))).trans tc0
    have T21 : ((((V.setCell ⟨ob, 7, none⟩ (int i64 t'.ep)).setCell ⟨ob, 8, none⟩ (int i64 t'.num)).setCell ⟨ob, 9, none⟩ (int i64 y.slot)).setCell ⟨ob, 10, none⟩ (int i64 y.til)).drew.cell? ⟨tk, 1, none⟩ = some (int i64 t'.num) := ((zan ne1).trans ((zan ne1).trans ((zan ne1).trans (zan ne1)))).trans tc1
    have T22 : ((((V.setCell ⟨ob, 7, none⟩ (int i64 t'.ep)).setCell ⟨ob, 8, none⟩ (int i64 t'.num)).setCell ⟨ob, 9, none⟩ (int i64 y.slot)).setCell ⟨ob, 10, none⟩ (int i64 y.til)).drew.cell? ⟨tk + 1, 4, none⟩ = some (int i64 y.slot) := ((zan ne2).trans ((zan ne2).trans ((zan ne2).trans (zan ne2)))).trans lc4
    have T23 : ((((V.setCell ⟨ob, 7, none⟩ (int i64 t'.ep)).setCell ⟨ob, 8, none⟩ (int i64 t'.num)).setCell ⟨ob, 9, none⟩ (int i64 y.slot)).setCell ⟨ob, 10, none⟩ (int i64 y.til)).drew.cell? ⟨tk + 1, 5, none⟩ = some (int i64 y.til) := ((zan ne2).trans ((zan ne2).trans ((zan ne2).trans (zan ne2)))).trans lc5
    go_region_held3 (fun w' => w'.cell? ⟨tk, 0, none⟩ = some (int i64 t'.ep) /\ w'.cell? ⟨tk, 1, none⟩ = some (int i64 t'.num) /\ w'.cell? ⟨tk + 1, 4, none⟩ = some (int i64 y.slot) /\ w'.cell? ⟨tk + 1, 5, none⟩ = some (int i64 y.til)) (first | go_keep | (dsimp only; refine ⟨?_, ?_, ?_, ?_⟩ <;> (simp only [drew_far]; repeat rw [zan (by assumption)]; assumption)) | exact ⟨((zan ne1).trans (zan ne1)).trans tc0, ((zan ne1).trans (zan ne1)).trans tc1, ((zan ne2).trans (zan ne2)).trans lc4, ((zan ne2).trans (zan ne2)).trans lc5⟩ | exact ⟨((zan ne1).trans ((zan ne1).trans (zan ne1))).trans tc0, ((zan ne1).trans ((zan ne1).trans (zan ne1))).trans tc1, ((zan ne2).trans ((zan ne2).trans (zan ne2))).trans lc4, ((zan ne2).trans ((zan ne2).trans (zan ne2))).trans lc5⟩ | exact ⟨((zan ne1).trans ((zan ne1).trans ((zan ne1).trans (zan ne1)))).trans tc0, ((zan ne1).trans ((zan ne1).trans ((zan ne1).trans (zan ne1)))).trans tc1, ((zan ne2).trans ((zan ne2).trans ((zan ne2).trans (zan ne2)))).trans lc4, ((zan ne2).trans ((zan ne2).trans ((zan ne2).trans (zan ne2)))).trans lc5⟩) (fail)
    go_wp2_with fail
    obtain ⟨hXr, hXb, hXo, hKX, hdn, hee, hdm, hr⟩ := ud HP
    have hV := ud HV
    have htk : X.heap.size = tk := ud HTK
    have hobe : V1.heap.size + 1 = ob := ud HOBE
    subst hobe
    subst htk
    have hlq := ud HOL
    have kU : zaj (fun k => k = V1.heap.size + 1) X ((((V.setCell ⟨V1.heap.size + 1, 7, none⟩ (int i64 t'.ep)).setCell ⟨V1.heap.size + 1, 8, none⟩ (int i64 t'.num)).setCell ⟨V1.heap.size + 1, 9, none⟩ (int i64 y.slot)).setCell ⟨V1.heap.size + 1, 10, none⟩ (int i64 y.til)) := kept4 (zaj.of_below (f := fun k => k = V1.heap.size + 1) hV) (int i64 t'.ep) (int i64 t'.num) (int i64 y.slot) (int i64 y.til)
    have hr3 := kU.heap hXr (by omega)
    have hq3 := kU.heap hXb (by omega)
    have ho3 := rset4 ((hV.block _ (zaa hXo)).trans hXo) t'.ep t'.num y.slot y.til
    go_roundw
    case rel => exact ⟨_, _, _, hr3, Nat.le_refl _, hq3, ho3, .inl rfl, (hKX.trans kU (fun _ _ e => e)).drew⟩
    case measure =>
     rw [zck (w := (((((V.setCell ⟨V1.heap.size + 1, 7, none⟩ (int i64 t'.ep)).setCell ⟨V1.heap.size + 1, 8, none⟩ (int i64 t'.num)).setCell ⟨V1.heap.size + 1, 9, none⟩ (int i64 y.slot)).setCell ⟨V1.heap.size + 1, 10, none⟩ (int i64 y.til))).drew) hr3, zck hr]
     exact zfc (ud HEL)
   ·have hnk : t' ≠ t := fun e => by
     have h1 := (ud HM).nodup
     have h2 := zej h1 hdm
     have h3 := zej h1 hg
     rw [e, h3] at h2; injection h2 with h2
     rw [<- h2] at hd0
     rw [show (⟨g.kd, g.s⟩ : Jk) = x.key from hj] at hd0
     simp at hd0
    simp only [hd0] at heq
    dsimp only [Tsk.key] at heq
    clear hd0 hdm
    go_wp2_with fail
    obtain ⟨hXr, hXb, hXo, hKX, hdn, hee, hdm, hr⟩ := ud HP
    have hV := ud HV
    have hr3 := (hV.block _ hXl).trans hXr
    refine ⟨⟨_, _, o, hr3, Nat.le_refl _, (hV.block _ (zaa hXb)).trans hXb, (hV.block _ hol).trans hXo, ?_, kept_below hKX hV⟩, ?_⟩
    ·rcases hdn with hdn | hdn
     ·exact .inl hdn
     ·refine .inr (fun a ha hs => ?_)
      rw [Array.toList_push, List.mem_append] at hs
      rcases hs with hs | hs
      ·exact hdn a ha hs
      ·rw [List.mem_singleton] at hs
       rw [once_eq (ud HM).once ha hee hs, ud HKEY]
       exact fun e => hnk (tok_inj e)
    ·rw [zck hr3, zck hr]; exact zfc (ud HEL)
end Go.Proofs.YtpbimdkclnekeaaGreat

namespace Go.Proofs.YtpbimdkclnekeaaGreat
open Go.RowKit Go.Maps Go.Shelf
set_option linter.unusedVariables false
theorem sort_none0 (a : Option Addr) (cap : Nat) (w : World) :
  Calls Tryz.prog 140 #[.slice a 0 cap, .func (.func 91) #[] #[]] w fun e w' => e = .returned (.tuple #[]) /\ w' = w :=
 AnyF.slices_SortFunc_none (P := Tryz.prog) Tryz.sortTsk a cap (.func (.func 91) #[] #[]) w
set_option maxHeartbeats 1000000 in
theorem collect0 {w : World} {Bm b : Nat} (hBm : Bm < w.heap.size) (hm : w.cell? ⟨Bm, 0, none⟩ = some (.map (some b))) (hown : zbs zcr w b []) :
  Calls Tryz.prog 139 #[.func (.func 133) #[] #[.pointer (some ⟨Bm, 0, none⟩)]] w fun e w' => ∃ a cap, e = .returned (.slice a 0 cap) /\ Below w.heap.size w w' := by
 have HC := zac (apseq_any _ _ en_tsk w (by simp) (itw_tsk id id Bm b [] (fun _ _ => rfl) w hBm hm hown))
 clear hm hown
 go_enter Tryz.func139, Tryz.ntmps139
 go_wp2_with fail
 refine (ud HC).mono ?_
 rintro e w' ⟨xs, v, ⟨ps, hp, hx⟩, rfl, hown, hb⟩
 have hxs : xs = [] := by rw [hx, List.perm_nil.1 hp]; rfl
 subst hxs
 obtain ⟨a, cap, rfl⟩ := zbt hown
 have HB := zac hb
 clear hown hb HC hx hp
 simp only [List.length_nil]
 go_wp2_with fail
 go_ret
 exact ⟨a, cap, rfl, ud HB⟩
set_option maxHeartbeats 1000000 in
theorem sfunc0 {w : World} {Bm b : Nat} (hBm : Bm < w.heap.size) (hm : w.cell? ⟨Bm, 0, none⟩ = some (.map (some b))) (hown : zbs zcr w b []) :
  Calls Tryz.prog 90 #[.func (.func 133) #[] #[.pointer (some ⟨Bm, 0, none⟩)], .func (.func 91) #[] #[]] w fun e w' => ∃ a cap, e = .returned (.slice a 0 cap) /\ Below w.heap.size w w' := by
 have HC := zac (collect0 hBm hm hown)
 clear hm hown
 go_enter Tryz.func90, Tryz.ntmps90
 go_wp2_with fail
 refine (ud HC).mono ?_
 rintro e w1 ⟨a, cap, rfl, hb⟩
 have HS := zac (sort_none0 a cap w1)
 have HB := zac hb
 clear hb HC
 go_wp2_with fail
 refine (ud HS).mono ?_
 rintro e w2 ⟨rfl, rfl⟩
 go_wp2_with fail
 go_ret
 exact ⟨a, cap, rfl, ud HB⟩
set_option maxRecDepth 8000 in
set_option maxHeartbeats 2000000 in
theorem list0 {w : World} {b : Nat} {c : Cf} {tv : Value} {ep num : Int} {tb qb : Nat} {QL : List (Tok × Lse)} (h : zav w b c tv ep num tb qb [] QL) :
  Calls Tryz.prog 40 #[.pointer (some ⟨b, 0, none⟩)] w fun e w' => e = .returned (.slice none 0 0) /\ Below w.heap.size w w' := by
 have hbl := h.lt
 have c9 := h.cell9
 have HV := zac (it_tsk0 tb w)
 have b0 := zag w (.cells #[.map (some tb)] 154)
 have hb0 : Below w.heap.size w (w.alloc (.cells #[.map (some tb)] 154)) := (Below.refl _ _).alloc (Nat.le_refl _) _
 have HS := zac (sfunc0 (w := w.alloc (.cells #[.map (some tb)] 154)) (Bm := w.heap.size) (b := tb) (by rw [zbm]; omega) (by rw [zab b0]; rfl) (h.later hb0).tasks)
 have HB0 := zac hb0
 clear h b0 hb0
 go_enter Tryz.func40, Tryz.ntmps40
 go_wp2_with fail
 refine (ud HV).mono ?_
 rintro e w0 ⟨rfl, rfl⟩
 go_wp2_with fail
 refine (ud HS).mono ?_
 rintro e w1 ⟨a, cap, rfl, hb1⟩
 have HB := zac ((ud HB0).trans (hb1.mono (ud HB0).size))
 clear c9 HV HS hb1
 go_wp2_with fail
 refine wp_loop_rounds 1 ?_
 rw [rounds_succ]
 go_wp2_with fail
 go_ret
 exact ⟨rfl, ud HB⟩
set_option maxHeartbeats 1000000 in
theorem mjobs0 {w : World} {i : Ids} {c : Cf} {ep : Int} {m : MS} (h : zat w i c ep m) (h0 : m.TL = []) :
  Calls Tryz.prog 17 #[.pointer (some ⟨i.x, 0, none⟩)] w fun e w' => e = .returned (.slice none 0 0) /\ Below w.heap.size w w' := by
 have hl := h.lt
 obtain ⟨-, -, -, -, -, -, -, -, -, -, c10⟩ := h.cells
 have HL := zac (list0 (h0 ▸ h.board))
 clear h h0
 go_enter Tryz.func17, Tryz.ntmps17
 go_wp2_with fail
 refine (ud HL).mono ?_
 rintro e w1 ⟨rfl, hb1⟩
 have HB := zac hb1
 clear hb1 HL
 go_wp2_with fail
 go_ret
 exact ⟨rfl, ud HB⟩
end Go.Proofs.YtpbimdkclnekeaaGreat

namespace Go.Proofs.YtpbimdkclnekeaaGreat
open Value (int)
open IntKind (i64)
open Go.RowKit Go.Maps Go.Shelf
open Go.ChangeMaps (setBlock)
set_option linter.unusedVariables false
def zbu (u q : Int) : Bool := decide (3 * q < 4 * u)
theorem ta_RR (v : Value) (w : World) : (Instr.typeAssert (.iface 175 v) 92 175 true).run Tryz.prog w = .ok (.tuple #[v, .bool true]) w := by kernel_rfl
theorem ta_CR (v : Value) (w : World) : (Instr.typeAssert (.iface 177 v) 92 175 true).run Tryz.prog w = .ok (.tuple #[.agg #[int i64 0, int i64 0, int i64 0], .bool false]) w := by kernel_rfl
theorem ta_CC (v : Value) (w : World) : (Instr.typeAssert (.iface 177 v) 92 177 true).run Tryz.prog w = .ok (.tuple #[v, .bool true]) w := by kernel_rfl
set_option maxRecDepth 20000 in
set_option maxHeartbeats 1000000 in
theorem tightM_any {w : World} {i : Ids} {c : Cf} {ep : Int} {m : MS} (h : zat w i c ep m) (hc : c.ok) (hu : 0 <= zam m.L /\ zam m.L <= 1000) :
  Calls Tryz.prog 35 #[.pointer (some ⟨i.x, 0, none⟩)] w fun e w' => e = .returned (.bool (zbu (zam m.L) c.qu)) /\ Below w.heap.size w w' := by
 obtain ⟨a, cap, htv, hts⟩ := h.ts
 obtain ⟨c0, c1, c2, c3, c4, c5, c6, -, -, c9, -⟩ := h.cells
 rw [htv] at c6
 have hxl := h.lt
 obtain ⟨hq1, hq2⟩ := hc.qu
 have HU := fun W hW => zac (pused_any ((h.later (w' := W) hW).set) (by unfold zdg; omega))
 have HQ := fun W => zac (lquota_any c a cap W)
 obtain ⟨hu1, hu2⟩ := hu
 unfold zbu
 generalize zam m.L = U at *
 clear h hts
 go_enter Tryz.func35, Tryz.ntmps35
 go_wp2_with fail
 have hne : Nonempty (zbg w.heap.size w) := zbg.some _ _
 have hlc := fun (u : zbg w.heap.size w) b o h => u.cell b o h
 refine zak w.heap.size (by kernel_rfl) (by kernel_rfl) ?_
 repeat (go_big_quiet_step (first
  | (go_at_call 33; exact Calls.later (Nat.le_refl _) (ud (HU _ (Subtype.property _))))
  | (go_at_call 75; exact Calls.later (Nat.le_refl _) (ud (HQ _)))))
 refine wpQuiet_nil ?_
 rintro ⟨w1, hb1⟩
 clear hlc hne
 dsimp only
 go_wp2_with fail
 go_ret
 exact ⟨rfl, hb1⟩
set_option maxRecDepth 8000 in
set_option maxHeartbeats 4000000 in
theorem doR_any {w : World} {i : Ids} {c : Cf} {ep : Int} {m : MS} (h : zat w i c ep m) (hc : c.ok) (s : Sg) (hs : inR c s) (k : Nat) (hk : s.t = k) (hlen : m.L.length <= 1000000) :
  Calls Tryz.prog 42 #[.pointer (some ⟨i.x, 0, none⟩), .iface 175 (.agg #[int i64 s.t, int i64 s.ser, int i64 s.win])] w fun e w' => e = .returned (.tuple #[]) /\ zat w' i c ep { m with L := zeg m.L s ⟨3, zcd (zcf c m.L s.ser s.win k)⟩ } /\ zaj (fun k => k = i.lb) w w' := by
 have hkn : k < c.n := by have := hs.2.2.1; omega
 obtain ⟨t, ser, win⟩ := s
 dsimp only at hk ⊢
 subst hk
 have hba : Below w.heap.size w (w.alloc (.cells #[int i64 k, int i64 ser, int i64 win] 175)) := (Below.refl _ _).alloc (Nat.le_refl _) _
 have q0 := zag w (.cells #[int i64 k, int i64 ser, int i64 win] 175)
 have hX := h.later hba
 obtain ⟨-, -, -, -, -, -, -, -, -, c9, -⟩ := hX.cells
 have hxl := hX.lt
 have hql := zaa q0
 have k0 : (w.alloc (.cells #[int i64 k, int i64 ser, int i64 win] 175)).cell? ⟨w.heap.size, 0, none⟩ = some (int i64 k) := by rw [zab q0]; rfl
 have k1 : (w.alloc (.cells #[int i64 k, int i64 ser, int i64 win] 175)).cell? ⟨w.heap.size, 1, none⟩ = some (int i64 ser) := by rw [zab q0]; rfl
 have k2 : (w.alloc (.cells #[int i64 k, int i64 ser, int i64 win] 175)).cell? ⟨w.heap.size, 2, none⟩ = some (int i64 win) := by rw [zab q0]; rfl
 have HP := zac (publish_any ((hX.later (Below.refl _ _).drew).set) hc k hkn ser win hs.1.2.1 hs.2.2.2 hlen)
 have HX := zac hX
 have HBA := zac hba
 clear h hX hba q0
 have ta := fun w => ta_RR (.agg #[int i64 k, int i64 ser, int i64 win]) w
 go_enter Tryz.func42, Tryz.ntmps42
 go_wp2_with fail
 generalize (w.alloc (.cells #[int i64 k, int i64 ser, int i64 win] 175)) = X at *
 refine zbd 6 (by kernel_rfl) (by kernel_rfl) ?_
 simp only [List.take_succ_cons, List.take_zero, List.drop_succ_cons, List.drop_zero]
 repeat still_step
 refine wpStill_nil ?_
 go_wp2_with (first | (go_at_call 92; refine (ud HP).mono ?_; rintro e V ⟨rfl, hS, hK⟩; have HS := zac hS; have HK := zac hK; clear hS hK))
 go_end0
 have hk : zaj (fun k => k = i.lb) X V := (zaj.refl (fun k => k = i.lb) X).drew.trans (ud HK) (fun _ _ e => e)
 exact ⟨rfl, (ud HX).putSet (ud HS) (hk.mono (fun k _ e => .inr (.inr (.inl e)))), (zaj.of_below (f := fun k => k = i.lb) (ud HBA)).trans hk (fun _ _ e => e)⟩
set_option maxRecDepth 8000 in
set_option maxHeartbeats 4000000 in
theorem doC_any {w : World} {i : Ids} {c : Cf} {ep : Int} {m : MS} (h : zat w i c ep m) (s : Sg) (hs : s.wf) (hlen : m.Gl.length <= 1000000000) :
  Calls Tryz.prog 42 #[.pointer (some ⟨i.x, 0, none⟩), .iface 177 (.agg #[int i64 s.t, int i64 s.ser, int i64 s.win])] w fun e w' => e = .returned (.tuple #[]) /\ zat w' i c ep { m with L := zby m.L s, Gl := zdz m.Gl s () } /\ zaj (fun k => k = i.lb \/ k = i.gb) w w' := by
 have hba : Below w.heap.size w (w.alloc (.cells #[int i64 s.t, int i64 s.ser, int i64 s.win] 177)) := (Below.refl _ _).alloc (Nat.le_refl _) _
 have q0 := zag w (.cells #[int i64 s.t, int i64 s.ser, int i64 s.win] 177)
 have hX := h.later hba
 obtain ⟨-, -, -, -, -, -, -, -, -, c9, -⟩ := hX.cells
 have hxl := hX.lt
 have hql := zaa q0
 have k0 : (w.alloc (.cells #[int i64 s.t, int i64 s.ser, int i64 s.win] 177)).cell? ⟨w.heap.size, 0, none⟩ = some (int i64 s.t) := by rw [zab q0]; rfl
 have k1 : (w.alloc (.cells #[int i64 s.t, int i64 s.ser, int i64 s.win] 177)).cell? ⟨w.heap.size, 1, none⟩ = some (int i64 s.ser) := by rw [zab q0]; rfl
 have k2 : (w.alloc (.cells #[int i64 s.t, int i64 s.ser, int i64 s.win] 177)).cell? ⟨w.heap.size, 2, none⟩ = some (int i64 s.win) := by rw [zab q0]; rfl
 have HP := zac (reclaim_any ((hX.later (Below.refl _ _).drew).set) s hs hlen)
 have HX := zac hX
 have HBA := zac hba
 clear h hX hba q0
 have ta := fun w => ta_CR (.agg #[int i64 s.t, int i64 s.ser, int i64 s.win]) w
 have tb := fun w => ta_CC (.agg #[int i64 s.t, int i64 s.ser, int i64 s.win]) w
 go_enter Tryz.func42, Tryz.ntmps42
 go_wp2_with fail
 generalize (w.alloc (.cells #[int i64 s.t, int i64 s.ser, int i64 s.win] 177)) = X at *
 refine zbd 6 (by kernel_rfl) (by kernel_rfl) ?_
 simp only [List.take_succ_cons, List.take_zero, List.drop_succ_cons, List.drop_zero]
 repeat still_step
 refine wpStill_nil ?_
 go_wp2_with (first | (go_at_call 93; refine (ud HP).mono ?_; rintro e V ⟨rfl, hS, hK⟩; have HS := zac hS; have HK := zac hK; clear hS hK))
 go_end0
 have hk : zaj (fun k => k = i.lb \/ k = i.gb) X V := (zaj.refl (fun k => k = i.lb \/ k = i.gb) X).drew.trans (ud HK) (fun _ _ e => e)
 exact ⟨rfl, (ud HX).putSet (ud HS) (hk.mono (fun k _ e => .inr (.inr e))), (zaj.of_below (f := fun k => k = i.lb \/ k = i.gb) (ud HBA)).trans hk (fun _ _ e => e)⟩
end Go.Proofs.YtpbimdkclnekeaaGreat
