import Derived.Test.YtpbimdkclnekeaaGreatKStp4
import Derived.Test.YtpbimdkclnekeaaGreatKOpd0
import Derived.Test.YtpbimdkclnekeaaGreatKOpen
import Derived.Test.YtpbimdkclnekeaaGreatKInv2

namespace Go.Proofs.YtpbimdkclnekeaaGreat
open Value (int)
open IntKind (i64)
open Go.RowKit Go.Maps Go.Shelf
set_option linter.unusedVariables false
theorem RInv.acts2 {c : Cf} {ep : Int} {m m1 m' : MS} {ns ns' : List Nm} (hc : c.ok) (hf : c.fits) (hs : SOk c ep m ns.length) (h : RInv c m ns) (hlen : ns.length + 1 < 9223372036854775807) (ha : Act1 c ep m ns m1 ns') (hb : Act1 c ep m1 ns' m' ns') : RInv c m' ns' := by
 have h1 := ha.nums
 exact (h.act hc hf hs (by omega) ha).act hc hf (ha.ok hc hf hs) (by omega) hb
def plyPost2 (w : World) (n2 : Nat) (e : Ending) (w' : World) : Prop := ∃ (c : Cf) (p B : Nat) (m : MS) (ns : List Nm), c.ok /\ c.fits /\ e = .returned (.pointer (some ⟨p, 0, none⟩)) /\ w.heap.size <= B /\ Shop w' B p c 1 m ns n2 /\ RInv c m ns /\ Below w.heap.size w w'
set_option maxRecDepth 20000 in
set_option maxHeartbeats 4000000 in
theorem played_inv (s le la wi ke qu : Int) (a : Option Addr) (n cap : Nat) (F0 W0 K0 : Nat -> Int) (sa : Option Addr) (n2 cap2 : Nat) (G : Nat -> KStep) (w : World) (h1 : -9223372036854775808 <= s /\ s <= 9223372036854775807) (h2 : -9223372036854775808 <= le /\ le <= 9223372036854775807) (h3 : -9223372036854775808 <= la /\ la <= 9223372036854775807) (h4 : -9223372036854775808 <= wi /\ wi <= 9223372036854775807) (h5 : -9223372036854775808 <= ke /\ ke <= 9223372036854775807) (h6 : -9223372036854775808 <= qu /\ qu <= 9223372036854775807) (hts : TS w a n F0 W0 K0) (hn : n <= 140737488355328) (hF : ∀ i, i < n -> -9223372036854775808 <= F0 i /\ F0 i <= 9223372036854775807) (hW : ∀ i, i < n -> -9223372036854775808 <= W0 i /\ W0 i <= 9223372036854775807) (hK : ∀ i, i < n -> -9223372036854775808 <= K0 i /\ K0 i <= 9223372036854775807) (hks : KS w sa n2 G) (hn2 : n2 < 4398046511104) (hG : ∀ i, i < n2 -> (G i).fits) :
  Calls Tryz.prog 14 #[.agg #[int i64 s, int i64 le, int i64 la, int i64 wi, int i64 ke, int i64 qu, .slice a n cap], .slice sa n2 cap2] w (plyPost2 w n2) := by
 have hb0 : Below w.heap.size w (w.alloc (.cells #[int i64 s, int i64 le, int i64 la, int i64 wi, int i64 ke, int i64 qu, .slice a n cap] 27)) := (Below.refl _ _).alloc (Nat.le_refl _) _
 have q0 := zag w (.cells #[int i64 s, int i64 le, int i64 la, int i64 wi, int i64 ke, int i64 qu, .slice a n cap] 27)
 have r0 : (w.alloc (.cells #[int i64 s, int i64 le, int i64 la, int i64 wi, int i64 ke, int i64 qu, .slice a n cap] 27)).cell? ⟨w.heap.size, 0, none⟩ = some (int i64 s) := by rw [zab q0]; rfl
 have r1 : (w.alloc (.cells #[int i64 s, int i64 le, int i64 la, int i64 wi, int i64 ke, int i64 qu, .slice a n cap] 27)).cell? ⟨w.heap.size, 1, none⟩ = some (int i64 le) := by rw [zab q0]; rfl
 have r2 : (w.alloc (.cells #[int i64 s, int i64 le, int i64 la, int i64 wi, int i64 ke, int i64 qu, .slice a n cap] 27)).cell? ⟨w.heap.size, 2, none⟩ = some (int i64 la) := by rw [zab q0]; rfl
 have r3 : (w.alloc (.cells #[int i64 s, int i64 le, int i64 la, int i64 wi, int i64 ke, int i64 qu, .slice a n cap] 27)).cell? ⟨w.heap.size, 3, none⟩ = some (int i64 wi) := by rw [zab q0]; rfl
 have r4 : (w.alloc (.cells #[int i64 s, int i64 le, int i64 la, int i64 wi, int i64 ke, int i64 qu, .slice a n cap] 27)).cell? ⟨w.heap.size, 4, none⟩ = some (int i64 ke) := by rw [zab q0]; rfl
 have r5 : (w.alloc (.cells #[int i64 s, int i64 le, int i64 la, int i64 wi, int i64 ke, int i64 qu, .slice a n cap] 27)).cell? ⟨w.heap.size, 5, none⟩ = some (int i64 qu) := by rw [zab q0]; rfl
 have r6 : (w.alloc (.cells #[int i64 s, int i64 le, int i64 la, int i64 wi, int i64 ke, int i64 qu, .slice a n cap] 27)).cell? ⟨w.heap.size, 6, none⟩ = some (.slice a n cap) := by rw [zab q0]; rfl
 have hrl := zaa q0
 have HOP := zac (opened_any s le la wi ke qu a n cap F0 W0 K0 (w.alloc (.cells #[int i64 s, int i64 le, int i64 la, int i64 wi, int i64 ke, int i64 qu, .slice a n cap] 27)) h1 h2 h3 h4 h5 h6 (hts.below hb0) hn hF hW hK)
 have HB0 := zac hb0
 have HKS := zac hks
 have HG := zac hG
 clear hb0 q0 h1 h2 h3 h4 h5 h6 hts hF hW hK hks hG
 go_enter Tryz.func14, Tryz.ntmps14
 go_wp2_with fail
 generalize (w.alloc (.cells #[int i64 s, int i64 le, int i64 la, int i64 wi, int i64 ke, int i64 qu, .slice a n cap] 27)) = X at *
 refine (ud HOP).mono ?_
 rintro e w1 ⟨c, p, hc, hf, rfl, hsh, hb1⟩
 have hXB : Below w.heap.size w w1 := (ud HB0).trans (hb1.mono (ud HB0).size)
 have HS1 := zac hsh
 have HB1 := zac hXB
 have hep : zdg 1 := by unfold zdg; omega
 have hxw : w.heap.size <= X.heap.size := (ud HB0).size
 clear hsh hb1 hXB HOP r0 r1 r2 r3 r4 r5 r6
 go_wp2_with fail
 go_loopw [6, 7] (fun y _ wr => ∃ (t : Nat) (m : MS) (ns : List Nm), t <= n2 /\ y = int i64 t /\ Shop wr X.heap.size p c 1 m ns t /\ RInv c m ns /\ Below w.heap.size w wr) (fun y _ _ => n2 - (intOf y).toNat)
 case atStart => exact ⟨0, _, [], Nat.zero_le _, rfl, ud HS1, RInv.start c 0, ud HB1⟩
 case round =>
  obtain ⟨t, m, ns, htn, rfl, hsh, hri, hbw⟩ := hrel
  have hni : (n2 : Int) <= 4398046511104 := by omega
  by_cases hlt : t < n2
  ·have hlti : (t : Int) < n2 := by omega
   obtain ⟨b, off, hsa, hbz, hcl⟩ := ud HKS (by omega)
   subst hsa
   obtain ⟨g0, g1, g2, g3⟩ := hcl t hlt
   have hfit := ud HG t hlt
   generalize G t = o at *
   obtain ⟨kd, oa, ob, ov⟩ := o
   obtain ⟨fa, fb, fv⟩ := hfit
   dsimp only at g0 g1 g2 g3 fa fb fv
   have y0 := (hbw.cell (p := ⟨b, off + t * 4, none⟩) hbz).trans g0
   have y1 := (hbw.cell (p := ⟨b, off + t * 4 + 1, none⟩) hbz).trans g1
   have y2 := (hbw.cell (p := ⟨b, off + t * 4 + 2, none⟩) hbz).trans g2
   have y3 := (hbw.cell (p := ⟨b, off + t * 4 + 3, none⟩) hbz).trans g3
   have ybz := Nat.lt_of_lt_of_le hbz hbw.size
   have HSTEP := zac (sstep_any hsh hc hf hep kd oa ob ov fa fb fv (by omega))
   have HBW := zac hbw
   obtain ⟨s9, k9, hp9, hS9, hk9, ho9, hkj9, hnj9⟩ := hsh
   have HACT := fun (m1 m' : MS) (ns' : List Nm) (ha : Act1 c 1 m ns m1 ns') (hb : Act1 c 1 m1 ns' m' ns') => zac (RInv.acts2 hc hf ho9 hri (by omega) ha hb)
   clear hcl hbw g0 g1 g2 g3 hS9 ho9 hri hk9 hp9 hkj9 hnj9
   go_wp2_with fail
   refine (ud HSTEP).mono ?_
   rintro e V2 ⟨rfl, hP⟩
   obtain ⟨m1, m', ns', hA, hA2, hSh, hBel, hC1, hC2⟩ := hP
   have HRI := HACT m1 m' ns' hA hA2
   have HSH := zac hSh
   have HBZ := zac ((ud HBW).trans (hBel.bel.mono hxw))
   clear hSh hBel hA hA2 hC1 hC2 HSTEP y0 y1 y2 y3
   go_wp2_with fail
   go_roundw
   case rel => exact ⟨t + 1, m', ns', by omega, by go_num, ud HSH, ud HRI, ud HBZ⟩
   case measure => simp [intOf]; omega
  ·have hltd : decide ((t : Int) < n2) = false := by simp; omega
   have htn' : t = n2 := by omega
   have HSH := zac hsh
   have HBZ := zac hbw
   have HRI := zac hri
   clear hsh hbw hri
   go_wp2_with fail
   go_ret
   exact ⟨c, p, _, m, ns, hc, hf, rfl, hxw, htn' ▸ ud HSH, ud HRI, ud HBZ⟩
end Go.Proofs.YtpbimdkclnekeaaGreat
