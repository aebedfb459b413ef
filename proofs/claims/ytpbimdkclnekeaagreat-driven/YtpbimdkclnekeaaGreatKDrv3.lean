import Derived.Test.YtpbimdkclnekeaaGreatKPly1
import Derived.Test.YtpbimdkclnekeaaGreatKInv1
import Derived.Test.YtpbimdkclnekeaaGreatKTel0
import Derived.Test.YtpbimdkclnekeaaGreatKRl3
import Derived.Test.YtpbimdkclnekeaaGreatKCmt0
import Derived.Test.YtpbimdkclnekeaaGreatKMlz6
import Derived.Test.YtpbimdkclnekeaaGreatRows
import Derived.Test.YtpbimdkclnekeaaGreatKOpen
import Derived.WalkKit
import Derived.ProofKit
import Derived.OpenShut
import Derived.ChangeOld
import Derived.Below
import Derived.SizedLaws

namespace Go.Proofs.YtpbimdkclnekeaaGreat
open Value (int)
open IntKind (i64)
open Go.RowKit Go.Maps Go.Shelf
set_option linter.unusedVariables false
theorem kcount_b (k : Int) : ∀ L : LV, 0 <= zad L k /\ zad L k <= L.length
 | [] => by simp [zad, zdt]
 | p :: L => by
  have ih := kcount_b k L
  unfold zad at *
  simp only [List.map_cons, zdt, List.length_cons]
  have h2 : 0 <= isSt k p.2 /\ isSt k p.2 <= 1 := by unfold isSt; split <;> omega
  omega
set_option maxRecDepth 20000 in
set_option maxHeartbeats 8000000 in
theorem driven_any (s le la wi ke qu : Int) (a : Option Addr) (n cap : Nat) (F0 W0 K0 : Nat -> Int) (sa : Option Addr) (n2 cap2 : Nat) (G : Nat -> KStep) (w : World) (h1 : -9223372036854775808 <= s /\ s <= 9223372036854775807) (h2 : -9223372036854775808 <= le /\ le <= 9223372036854775807) (h3 : -9223372036854775808 <= la /\ la <= 9223372036854775807) (h4 : -9223372036854775808 <= wi /\ wi <= 9223372036854775807) (h5 : -9223372036854775808 <= ke /\ ke <= 9223372036854775807) (h6 : -9223372036854775808 <= qu /\ qu <= 9223372036854775807) (hts : TS w a n F0 W0 K0) (hn : n <= 140737488355328) (hF : ∀ i, i < n -> -9223372036854775808 <= F0 i /\ F0 i <= 9223372036854775807) (hW : ∀ i, i < n -> -9223372036854775808 <= W0 i /\ W0 i <= 9223372036854775807) (hK : ∀ i, i < n -> -9223372036854775808 <= K0 i /\ K0 i <= 9223372036854775807) (hks : KS w sa n2 G) (hn2 : n2 < 4398046511104) (hG : ∀ i, i < n2 -> (G i).fits) :
  Calls Tryz.prog 7 #[.agg #[int i64 s, int i64 le, int i64 la, int i64 wi, int i64 ke, int i64 qu, .slice a n cap], .slice sa n2 cap2] w fun e w' => e = .returned (.bool true) /\ Below w.heap.size w w' := by
 have hb0 : Below w.heap.size w (w.alloc (.cells #[int i64 s, int i64 le, int i64 la, int i64 wi, int i64 ke, int i64 qu, .slice a n cap] 27)) := (Below.refl _ _).alloc (Nat.le_refl _) _
 have q0 := zag w (.cells #[int i64 s, int i64 le, int i64 la, int i64 wi, int i64 ke, int i64 qu, .slice a n cap] 27)
 have r0 : (w.alloc (.cells #[int i64 s, int i64 le, int i64 la, int i64 wi, int i64 ke, int i64 qu, .slice a n cap] 27)).cell? ⟨w.heap.size, 0, none⟩ = some (int i64 s) := by rw [zab q0]; rfl
 have r1 : (w.alloc (.cells #[int i64 s, int i64 le, int i64 la, int i64 wi, int i64 ke, int i64 qu, .slice a n cap] 27)).cell? ⟨w.heap.size, 1, none⟩ = some (int i64 le) := by rw [zab q0]; rfl
 have r2 : (w.alloc (.cells #[int i64 s, int i64 le, int i64 la, int i64 wi, int i64 ke, int i64 qu, .slice a n cap] 27)).cell? ⟨w.heap.size, 2, none⟩ = some (int i64 la) := by rw [zab q0]; rfl
 have r3 : (w.alloc (.cells #[int i64 s, int i64 le, int i64 la, int i64 wi, int i64 ke, int i64 qu, .slice a n cap] 27)).cell? ⟨w.heap.size, 3, none⟩ = some (int i64 wi) := by rw [zab q0]; rfl
 have r4 : (w.alloc (.cells #[int i64 s, int i64 le, int i64 la, int i64 wi, int i64 ke, int i64 qu, .slice a n cap] 27)).cell? ⟨w.heap.size, 4, none⟩ = some (int i64 ke) := by rw [zab q0]; rfl
 have r5 : (w.alloc (.cells #[int i64 s, int i64 le, int i64 la, int i64 wi, int i64 ke, int i64 qu, .slice a n cap] 27)).cell? ⟨w.heap.size, 5, none⟩ = some (int i64 qu) := by rw [zab q0]; rfl
 have r6 : (w.alloc (.cells #[int i64 s, int i64 le, int i64 la, int i64 wi, int i64 ke, int i64 qu, .slice a n cap] 27)).cell? ⟨w.heap.size, 6, none⟩ = some (.slice a n cap) := by rw [zab q0]; rfl
 have hrl := zaa q0
 have hksX : KS (w.alloc (.cells #[int i64 s, int i64 le, int i64 la, int i64 wi, int i64 ke, int i64 qu, .slice a n cap] 27)) sa n2 G := fun h0 => by
  obtain ⟨b, off, e, hlt, hcc⟩ := hks h0
  have e2 : ∀ o, (w.alloc (.cells #[int i64 s, int i64 le, int i64 la, int i64 wi, int i64 ke, int i64 qu, .slice a n cap] 27)).cell? ⟨b, o, none⟩ = w.cell? ⟨b, o, none⟩ := fun o => hb0.cell (p := ⟨b, o, none⟩) hlt
  exact ⟨b, off, e, Nat.lt_of_lt_of_le hlt hb0.size, fun i hi => by simp only [e2]; exact hcc i hi⟩
 have HPL := zac (played_inv s le la wi ke qu a n cap F0 W0 K0 sa n2 cap2 G (w.alloc (.cells #[int i64 s, int i64 le, int i64 la, int i64 wi, int i64 ke, int i64 qu, .slice a n cap] 27)) h1 h2 h3 h4 h5 h6 (hts.below hb0) hn hF hW hK hksX hn2 hG)
 have HB0 := zac hb0
 clear hb0 q0 h1 h2 h3 h4 h5 h6 hts hF hW hK hks hG hksX
 go_enter Tryz.func7, Tryz.ntmps7
 go_wp2_with fail
 generalize (w.alloc (.cells #[int i64 s, int i64 le, int i64 la, int i64 wi, int i64 ke, int i64 qu, .slice a n cap] 27)) = X at *
 refine (ud HPL).mono ?_
 rintro e w1 ⟨c, p, B, m, ns, hc, hf, rfl, hB, hsh, hri, hb1⟩
 have hXB : Below w.heap.size w w1 := (ud HB0).trans (hb1.mono (ud HB0).size)
 have hxw : w.heap.size <= X.heap.size := (ud HB0).size
 have hwB : w.heap.size <= B := Nat.le_trans hxw hB
 have HSH := zac hsh
 have HRI := zac hri
 have HB1 := zac hXB
 obtain ⟨s0, k0, hp0, hS0, hk0, ho0, hkj0, hnj0⟩ := hsh
 have x9 := (hS0.cells).2.2.2.2.2.2.1
 have xl := hS0.lt
 rw [hp0] at x9 xl
 obtain ⟨nw1, nw2⟩ := ho0.ok.now
 have hep : zdg 1 := by unfold zdg; omega
 have hlen : (ns.length : Int) < 9223372036854775808 := by omega
 have HO0 := zac ho0
 clear hri hXB hb1 HPL r0 r1 r2 r3 r4 r5 r6 hS0 ho0 hp0
 by_cases hlate : 100000 < m.now + 100 + 32
 ·go_wp2_with fail
  go_ret
  exact ⟨rfl, ud HB1⟩
 ·have hld : decide (100000 < m.now + 100 + 32) = false := by simp; omega
  have HT1 := zac (stick_now (ud HSH) hc hf 100 (by omega) (by omega) (by omega))
  go_wp2_with fail
  refine (ud HT1).mono ?_
  rintro e w2 ⟨rfl, m1, hA1, hn1, hsh1, hbl1⟩
  have HT2 := zac (stick_now hsh1 hc hf 32 (by omega) (by omega) (by omega))
  have HSH1 := zac hsh1
  have HA1 := zac (And.intro hA1 hn1)
  have HB2 := zac ((ud HB1).trans (hbl1.bel.mono hwB))
  clear hsh1 hA1 hn1 hbl1 HT1 x9 xl HSH
  go_wp2_with fail
  refine (ud HT2).mono ?_
  rintro e w3 ⟨rfl, m2, hA2, hn22, hsh2, hbl2⟩
  have hD0 := DInv.start hc hf (ud HO0) (ud HRI) hlen (ud HA1).1 (ud HA1).2 hA2 hn22
  have HB3 := zac ((ud HB2).trans (hbl2.bel.mono hwB))
  obtain ⟨s2, k2, hp2, hS2, hk2, ho2, hkj2, hnj2⟩ := hsh2
  have hu2 := ho2.ok.seg.u0 hc
  have hl2 := ho2.ok.seg.len400 hc
  have HST := zac (zdj hS2.mill hc ⟨hu2.1, by omega⟩ (by omega))
  have x0 := (hS2.cells).1
  have xl := hS2.lt
  rw [hp2] at x0 xl
  have hph := phi_bounds m2.L ho2.ok.seg.sts
  have hkc := fun k => kcount_b k m2.L
  obtain ⟨k11, k12⟩ := hkc 1
  obtain ⟨k21, k22⟩ := hkc 2
  obtain ⟨k31, k32⟩ := hkc 3
  have HS2 := zac hS2
  have HD0 := zac hD0
  have HPH := zac hph
  clear hD0 hph hS2 ho2 hbl2 HT2 HB2 HSH1 HA1 HO0 HRI hA2 hn22 hkc hu2
  go_wp2_with fail
  refine (ud HST).mono ?_
  rintro e V4 ⟨rfl, hb4⟩
  have hbA := hb4.alloc hb4.size (.cells #[int i64 m2.now, int i64 (zam m2.L), int i64 (zca (zbu (zam m2.L) c.qu)), int i64 1, int i64 (zad m2.L 1), int i64 (zad m2.L 2), int i64 (zad m2.L 3), int i64 m2.Gl.length] 37)
  have q4 := zag V4 (.cells #[int i64 m2.now, int i64 (zam m2.L), int i64 (zca (zbu (zam m2.L) c.qu)), int i64 1, int i64 (zad m2.L 1), int i64 (zad m2.L 2), int i64 (zad m2.L 3), int i64 m2.Gl.length] 37)
  have t4 : (V4.alloc (.cells #[int i64 m2.now, int i64 (zam m2.L), int i64 (zca (zbu (zam m2.L) c.qu)), int i64 1, int i64 (zad m2.L 1), int i64 (zad m2.L 2), int i64 (zad m2.L 3), int i64 m2.Gl.length] 37)).cell? ⟨V4.heap.size, 4, none⟩ = some (int i64 (zad m2.L 1)) := by rw [zab q4]; rfl
  have t5 : (V4.alloc (.cells #[int i64 m2.now, int i64 (zam m2.L), int i64 (zca (zbu (zam m2.L) c.qu)), int i64 1, int i64 (zad m2.L 1), int i64 (zad m2.L 2), int i64 (zad m2.L 3), int i64 m2.Gl.length] 37)).cell? ⟨V4.heap.size, 5, none⟩ = some (int i64 (zad m2.L 2)) := by rw [zab q4]; rfl
  have t6 : (V4.alloc (.cells #[int i64 m2.now, int i64 (zam m2.L), int i64 (zca (zbu (zam m2.L) c.qu)), int i64 1, int i64 (zad m2.L 1), int i64 (zad m2.L 2), int i64 (zad m2.L 3), int i64 m2.Gl.length] 37)).cell? ⟨V4.heap.size, 6, none⟩ = some (int i64 (zad m2.L 3)) := by rw [zab q4]; rfl
  have tl := zaa q4
  have HS4 := zac ((ud HS2).later hbA)
  have HB4 := zac ((ud HB3).trans (hbA.mono (ud HB3).size))
  clear hb4 hbA q4 HST x0 xl HS2 HB3
  go_wp2_with fail
  have hM0 : 0 <= 2 * (zad m2.L 1 + zad m2.L 2 + zad m2.L 3) /\ 2 * (zad m2.L 1 + zad m2.L 2 + zad m2.L 3) <= 2400 := by omega
  clear t4 t5 t6 tl
  generalize hMe : 2 * (zad m2.L 1 + zad m2.L 2 + zad m2.L 3) = M at *
  generalize (V4.alloc (.cells #[int i64 m2.now, int i64 (zam m2.L), int i64 (zca (zbu (zam m2.L) c.qu)), int i64 1, int i64 (zad m2.L 1), int i64 (zad m2.L 2), int i64 (zad m2.L 3), int i64 m2.Gl.length] 37)) = W4 at *
  obtain ⟨hM1, hM2⟩ := hM0
  go_loopw [10, 11, 12, 13, 14, 15] (fun y _ _ _ _ _ wr => ∃ (j : Nat) (m' : MS), y = int i64 j /\ (j : Int) + phi m'.L <= M /\ DInv c 1 m' ns /\ zbn wr B s2 c 1 m' m'.now ns (tokL 1 k2) (zdy 1 m2.QL k2) /\ m'.num <= (k2 : Int) + j /\ Below w.heap.size w wr) (fun y _ _ _ _ _ _ => M.toNat + 1 - (intOf y).toNat)
  case atStart => exact ⟨0, m2, rfl, by have := (ud HPH).2; simpa using this, ud HD0, ud HS4, by omega, ud HB4⟩
  case round =>
   obtain ⟨j, m', rfl, hj, hD, hS, hnm, hbw⟩ := hrel
   have hph := (phi_bounds m'.L hD.ok.ok.seg.sts).1
   have hju : (j : Int) <= M := by omega
   have x0 := (hS.cells).1
   have xl := hS.lt
   rw [hp2] at x0 xl
   have hu := hD.ok.ok.seg.u0 hc
   have hs1 := hc.sl
   have hnum := hD.ok.ok.num
   have HPK := zac (mpick_any hS.mill hc 0 ⟨by omega, by omega⟩ hD.ok.ok.now hD.ok.tsk (by rw [hD.free]; simp) ⟨by omega, by omega⟩ hep (by rw [hD.free]; intro q hq; cases hq) ⟨hu.1, by omega⟩)
   have HD := zac hD
   have HS := zac hS
   have HBW := zac hbw
   have hle := hc.le
   obtain ⟨hw1, hw2⟩ := hD.ok.ok.now
   clear hD hS hbw HPH HD0 HS4 HB4 hu
   go_wp2_with fail
   refine (ud HPK).mono ?_
   rintro e V (⟨rfl, hbv, hbusy⟩ | ⟨rfl, hbv, hidle⟩ | ⟨p9, hp9, hfr, rfl, hM, hK⟩)
   ·exact absurd hbusy (by rw [(ud HD).free]; simp)
   ·have h0 := (ud HD).idle hidle
    have hba := hbv.alloc hbv.size (.cells #[int i64 0, int i64 0, int i64 0, int i64 0, int i64 0, int i64 0, int i64 0, int i64 0, int i64 0, int i64 0, int i64 0] 51)
    have hZ := (ud HS).later hba
    have y0 := (hZ.cells).1
    have yl := hZ.lt
    rw [hp2] at y0 yl
    have HJ := zac (mjobs0 hZ.mill h0)
    have HZ := zac hZ
    have HBZ := zac ((ud HBW).trans (hba.mono (ud HBW).size))
    clear hbv hba hZ x0 xl HPK HS HBW hidle
    go_wp2_with fail
    refine (ud HJ).mono ?_
    rintro e V6 ⟨rfl, hb6⟩
    have HR := zac (sright_any ((ud HZ).later hb6) hc hf (ud HD).ok.ok (ud HD).inv (by omega) true (fun _ => done_all hc hf (ud HD).ok.ok (ud HD).inv (ud HD).comp h0))
    rw [hp2] at HR
    have HB6 := zac ((ud HBZ).trans (hb6.mono (ud HBZ).size))
    clear hb6 y0 yl HJ HBZ HZ
    go_wp2_with fail
    refine (ud HR).mono ?_
    rintro e V7 ⟨rfl, hb7⟩
    have HB7 := zac ((ud HB6).trans (hb7.mono (ud HB6).size))
    clear hb7 HB6 HR
    go_wp2_with fail
    go_ret
    exact ⟨rfl, ud HB7⟩
   ·have hlo : ∀ k, zbx s2.i k -> w.heap.size <= k := fun k hk => Nat.le_trans hwB ((ud HS).mlo k hk)
    have hA := (Below.refl V.heap.size V).alloc (Nat.le_refl _) (.cells #[int i64 p9.2.kd, int i64 p9.2.s.t, int i64 p9.2.s.ser, int i64 p9.2.s.win, int i64 p9.2.since, int i64 p9.2.tries, int i64 p9.2.rest, int i64 1, int i64 (m'.num + 1), int i64 0, int i64 (m'.now + c.le)] 51)
    have hS2 : zbn (V.alloc (.cells #[int i64 p9.2.kd, int i64 p9.2.s.t, int i64 p9.2.s.ser, int i64 p9.2.s.win, int i64 p9.2.since, int i64 p9.2.tries, int i64 p9.2.rest, int i64 1, int i64 (m'.num + 1), int i64 0, int i64 (m'.now + c.le)] 51)) B s2 c 1 (zdm 1 c m' p9) m'.now ns (tokL 1 k2) (zdy 1 m2.QL k2) := ((ud HS).putMill hM hK).later hA
    have jl := zag V (.cells #[int i64 p9.2.kd, int i64 p9.2.s.t, int i64 p9.2.s.ser, int i64 p9.2.s.win, int i64 p9.2.since, int i64 p9.2.tries, int i64 p9.2.rest, int i64 1, int i64 (m'.num + 1), int i64 0, int i64 (m'.now + c.le)] 51)
    have j7 : (V.alloc (.cells #[int i64 p9.2.kd, int i64 p9.2.s.t, int i64 p9.2.s.ser, int i64 p9.2.s.win, int i64 p9.2.since, int i64 p9.2.tries, int i64 p9.2.rest, int i64 1, int i64 (m'.num + 1), int i64 0, int i64 (m'.now + c.le)] 51)).cell? ⟨V.heap.size, 7, none⟩ = some (int i64 1) := by rw [zab jl]; rfl
    have j8 : (V.alloc (.cells #[int i64 p9.2.kd, int i64 p9.2.s.t, int i64 p9.2.s.ser, int i64 p9.2.s.win, int i64 p9.2.since, int i64 p9.2.tries, int i64 p9.2.rest, int i64 1, int i64 (m'.num + 1), int i64 0, int i64 (m'.now + c.le)] 51)).cell? ⟨V.heap.size, 8, none⟩ = some (int i64 (m'.num + 1)) := by rw [zab jl]; rfl
    have jz := zaa jl
    have HC := zac (drain_commit (hS2.later (Below.refl _ _).drew).mill hc hf (ud HD) hlen hp9 (by omega))
    have y0 := (hS2.cells).1
    have yl := hS2.lt
    rw [hp2] at y0 yl
    have hB5 := (ud HBW).trans (hK.below (ud HBW).size hlo)
    have HBY := zac (hB5.trans (hA.mono hB5.size))
    have HSY := zac hS2
    clear hA hS2 jl hB5 hM hK HPK x0 xl HS HBW hfr HD
    go_wp2_with fail
    generalize (V.alloc (.cells #[int i64 p9.2.kd, int i64 p9.2.s.t, int i64 p9.2.s.ser, int i64 p9.2.s.win, int i64 p9.2.since, int i64 p9.2.tries, int i64 p9.2.rest, int i64 1, int i64 (m'.num + 1), int i64 0, int i64 (m'.now + c.le)] 51)) = Y at *
    refine zbd 6 (by kernel_rfl) (by kernel_rfl) ?_
    simp only [List.take_succ_cons, List.take_zero, List.drop_succ_cons, List.drop_zero]
    repeat still_step
    refine wpStill_nil ?_
    go_wp2_with fail
    refine (ud HC).mono ?_
    rintro e V8 ⟨rfl, m8, hM8, hK8, hD8, hph8, hn8, hnum8⟩
    have hkz : zaj (zbx s2.i) Y V8 := ((zaj.refl _ _).drew).trans hK8 (fun _ _ e => e)
    have hS8 := (ud HSY).putMill hM8 hkz
    rw [<- hn8] at hS8
    have HS8 := zac hS8
    have HD8 := zac hD8
    have HB8 := zac ((ud HBY).trans (hkz.below (ud HBY).size hlo))
    clear hM8 hK8 hD8 hkz hS8 HC HSY HBY y0 yl j7 j8 jz
    go_wp2_with fail
    go_roundw
    case rel => exact ⟨j + 1, m8, by go_num, by omega, ud HD8, ud HS8, by omega, ud HB8⟩
    case measure => simp [intOf]; omega
end Go.Proofs.YtpbimdkclnekeaaGreat

namespace Go.Proofs.YtpbimdkclnekeaaGreat
open Value (int)
open IntKind (i64)
open Go.ChangeShapes Go.WideShapes Go.ChangeAt Go.RowKit
set_option linter.unusedVariables false
theorem drivenOwn : ownKnob Tryz.prog.godebug = none := by kernel_rfl
theorem drivenLaidOut : laidOutB Tryz.prog = true := by kernel_rfl
set_option maxRecDepth 100000 in
theorem drivenLifted (os : Os) (started : os.Started) (H : Type) (enc : TypeId × Value -> H) :
  ReturnsInHanded {} Tryz.checked os 7 .any (Rows.drivenSpec.pre6 enc Tryz.prog Tryz.f7 Rows.drivenRow.domain false) (Rows.drivenSpec.post enc Tryz.prog Tryz.f7 false true false false) := by
 refine returnsInHanded_of_change_sized (C := Tryz.checked) drivenOwn started (by kernel_rfl) Tryz.func7
  (ChangeSpec.witness6 (enc := enc) (C := Tryz.checked) false ⟨#[], #[.agg #[int i64 0, int i64 0, int i64 0, int i64 0, int i64 0, int i64 0, .slice none 0 0], .slice none 0 0], []⟩ 8 (by kernel_rfl) (by kernel_rfl) (by kernel_rfl) (by kernel_rfl)) ?_
 intro W base args ds gs before hval0 hW hcnd hsz0 _
 have hval : ∀ (j : Nat) t v, Tryz.f7.params[j]? = some t -> args[j]? = some v -> Value.okWide Tryz.prog W .any base t v := hval0
 have hsz : (DataW.weightsEach Tryz.prog (Tryz.f7.params.toList ++ Rows.drivenSpec.plain.varTypes Tryz.prog) (ds ++ gs)).all (· <= reachBytes) = true := hsz0
 have hW' := hW
 obtain ⟨p, q, hA0, hV, rfl, hfz, hnd⟩ := hW
 have hA : DataW.TrodAll enc Tryz.prog W 0 (fun _ => true) true Tryz.f7.params.toList args.toList ds p := hA0
 rw [Tryz.params7] at hA hval hsz
 obtain ⟨v0, vs0, d0, ds0, p0, q0, hargs, rfl, rfl, h0, r0⟩ := trodAll_cons hA
 obtain ⟨v1, vs1, d1, ds1, p1, q1, rfl, rfl, rfl, h1, r1⟩ := trodAll_cons r0
 obtain ⟨rfl, rfl, rfl⟩ := trodAll_nil r1
 obtain rfl : args = #[v0, v1] := by cases args; simp_all
 obtain ⟨rfl, rfl⟩ := trodVars_none hV
 obtain ⟨cs, rfl, hcs⟩ := okWide_struct Tryz.underlying27 (hval 0 27 v0 rfl rfl)
 obtain ⟨a1, len1, cap1, rfl⟩ := okWide_slice Tryz.underlying28 (hval 1 28 v1 rfl rfl)
 have k0 := h0
 have k1 := h1
 have lt0 : ∀ x ∈ p0, x.block < W.heap.size := by obtain ⟨m, hm⟩ := k0; exact DataW.trod_lt m _ _ _ hm
 have lt1 : ∀ x ∈ p1, x.block < W.heap.size := by obtain ⟨m, hm⟩ := k1; exact DataW.trod_lt m _ _ _ hm
 obtain ⟨fuel, hf⟩ := h0
 obtain ⟨fuel1, hf1⟩ := h1
 have hf' : DataW.trod enc Tryz.prog W 0 (fun _ => true) true fuel 27 cs.toList = some (d0, p0) := by simpa [Value.cells] using hf
 have hf1' : DataW.trod enc Tryz.prog W 0 (fun _ => true) true fuel1 28 [.slice a1 len1 cap1] = some (d1, p1) := by simpa [Value.cells] using hf1
 obtain ⟨s, le, la, wi, ke, qu, a, n, cap, Fr, Wd, K, hcl, hts, ⟨b1, b2, b3, b4, b5, b6⟩, ⟨hF, hWd, hK⟩, hwt⟩ := kopen_config hf'
 have hcs' : cs = #[int i64 s, int i64 le, int i64 la, int i64 wi, int i64 ke, int i64 qu, .slice a n cap] := by cases cs; simp_all
 have hn : n <= 140737488355328 := by
  have := hwt (fun y hy => by
   have := List.all_eq_true.1 hsz y (DataW.weights_mem_each (j := 0) rfl rfl y hy)
   simpa using this)
  simp only [reachBytes] at this
  omega
 obtain ⟨a2, n2, cap2, G, hc2, hks, hn2, hG⟩ := kopen_steps hf1' (fun y hy => by
  have := List.all_eq_true.1 hsz y (DataW.weights_mem_each (j := 1) rfl rfl y hy)
  simpa using this)
 simp at hc2
 obtain ⟨rfl, rfl, rfl⟩ := hc2
 clear hA0 hval0 hf hf' hwt hf1 hf1'
 refine (show Calls Tryz.prog 7 #[.agg cs, .slice a1 len1 cap1] W _ from hcs' ▸ driven_any s le la wi ke qu a n cap Fr Wd K a1 len1 cap1 G W b1 b2 b3 b4 b5 b6 hts hn hF hWd hK hks hn2 hG).mono fun e W' ⟨he, bel⟩ => ?_
 subst he
 exact ⟨_, rfl, _, _, _, [], _, [], hW', trodAll_mk1 (shut_bool Tryz.underlying4 _), (trodAll_cons_mk (Below.trod drivenLaidOut (by kernel_rfl) (of_decide_eq_true (by kernel_rfl)) k0 bel lt0) (trodAll_cons_mk (Below.trod drivenLaidOut (by kernel_rfl) (of_decide_eq_true (by kernel_rfl)) k1 bel lt1) trodAll_mk0)), rfl, bel.frame _, fun h => by cases h⟩
theorem driven_holds : Rows.DrivenSaid :=
 OpenClaim.holds_of_wide 7 Tryz.f7 rfl rfl rfl rfl rfl rfl rfl ⟨rfl, rfl, rfl, rfl, rfl⟩ rfl rfl rfl rfl rfl (by kernel_rfl) Tryz.func7 (by kernel_rfl)
  (of_decide_eq_true (by kernel_rfl)) (by unfold Func.isWrapper; first | (rw [if_pos (by decide +kernel)]; kernel_rfl) | (rw [if_neg (by decide +kernel)]; exact ⟨rfl, rfl⟩))
  (fun os started H enc _ => drivenLifted os started H enc)
#print axioms driven_holds
end Go.Proofs.YtpbimdkclnekeaaGreat
