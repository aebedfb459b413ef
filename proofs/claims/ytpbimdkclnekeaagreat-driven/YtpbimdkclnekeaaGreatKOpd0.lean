import Derived.Test.YtpbimdkclnekeaaGreatKAwk2
import Derived.Test.YtpbimdkclnekeaaGreatKCfg1
import Derived.Test.YtpbimdkclnekeaaGreatKOpz0
import Derived.Test.YtpbimdkclnekeaaGreatKPck2

namespace Go.Proofs.YtpbimdkclnekeaaGreat
open Value (int)
open IntKind (i64)
open Go.RowKit Go.Maps Go.Shelf
set_option linter.unusedVariables false
def opdPost (w : World) (e : Ending) (w' : World) : Prop := ∃ (c : Cf) (p : Nat), c.ok /\ c.fits /\ e = .returned (.pointer (some ⟨p, 0, none⟩)) /\ Shop w' w.heap.size p c 1 ⟨0, [], [], 0, [], []⟩ [] 0 /\ Below w.heap.size w w'
theorem opd_ne {a b j : Nat} (hz : a = b + 2) (hj : a <= j) (e : foot (b + 1) (.slice none 0 0) j) : False := by
 rcases e with e | e
 ·omega
 ·cases e
set_option maxRecDepth 20000 in
set_option maxHeartbeats 4000000 in
theorem opened_any (s le la wi ke qu : Int) (a : Option Addr) (n cap : Nat) (F0 W0 K0 : Nat -> Int) (w : World) (h1 : -9223372036854775808 <= s /\ s <= 9223372036854775807) (h2 : -9223372036854775808 <= le /\ le <= 9223372036854775807) (h3 : -9223372036854775808 <= la /\ la <= 9223372036854775807) (h4 : -9223372036854775808 <= wi /\ wi <= 9223372036854775807) (h5 : -9223372036854775808 <= ke /\ ke <= 9223372036854775807) (h6 : -9223372036854775808 <= qu /\ qu <= 9223372036854775807) (hts : TS w a n F0 W0 K0) (hn : n <= 140737488355328) (hF : ∀ i, i < n -> -9223372036854775808 <= F0 i /\ F0 i <= 9223372036854775807) (hW : ∀ i, i < n -> -9223372036854775808 <= W0 i /\ W0 i <= 9223372036854775807) (hK : ∀ i, i < n -> -9223372036854775808 <= K0 i /\ K0 i <= 9223372036854775807) :
  Calls Tryz.prog 10 #[.agg #[int i64 s, int i64 le, int i64 la, int i64 wi, int i64 ke, int i64 qu, .slice a n cap]] w (opdPost w) := by
 have hb0 : Below w.heap.size w (w.alloc (.cells #[int i64 s, int i64 le, int i64 la, int i64 wi, int i64 ke, int i64 qu, .slice a n cap] 27)) := (Below.refl _ _).alloc (Nat.le_refl _) _
 have q0 := zag w (.cells #[int i64 s, int i64 le, int i64 la, int i64 wi, int i64 ke, int i64 qu, .slice a n cap] 27)
 have HAW := fun W => zac (awake_any W)
 have HCF := fun W (hW' : Below w.heap.size w W) => zac (config_any s le la wi ke qu a n cap F0 W0 K0 W h1 h2 h3 h4 h5 h6 (hts.below hW') hn hF hW hK)
 have HB0 := zac hb0
 have Q0 := zac q0
 have hl0 := zaa q0
 clear hb0 q0 h1 h2 h3 h4 h5 h6 hts hF hW hK
 go_enter Tryz.func10, Tryz.ntmps10
 go_wp2_with (first
  | (go_at_call 23; refine (ud (HAW _)).mono ?_; rintro e w1 ⟨rfl, hb1⟩; have x0 := (hb1.block _ hl0).trans (ud Q0); have r0 : w1.cell? ⟨w.heap.size, 0, none⟩ = some (int i64 s) := (by rw [zab x0]; rfl); have r1 : w1.cell? ⟨w.heap.size, 1, none⟩ = some (int i64 le) := (by rw [zab x0]; rfl); have r2 : w1.cell? ⟨w.heap.size, 2, none⟩ = some (int i64 la) := (by rw [zab x0]; rfl); have r3 : w1.cell? ⟨w.heap.size, 3, none⟩ = some (int i64 wi) := (by rw [zab x0]; rfl); have r4 : w1.cell? ⟨w.heap.size, 4, none⟩ = some (int i64 ke) := (by rw [zab x0]; rfl); have r5 : w1.cell? ⟨w.heap.size, 5, none⟩ = some (int i64 qu) := (by rw [zab x0]; rfl); have r6 : w1.cell? ⟨w.heap.size, 6, none⟩ = some (.slice a n cap) := (by rw [zab x0]; rfl); have hr1 := zaa x0; have HB1 := zac ((ud HB0).trans (hb1.mono (ud HB0).size)); clear hb1 x0 HAW)
  | (go_at_call 24; refine (ud (HCF _ (ud HB1))).mono ?_; rintro e w2 ⟨c, g, cp, hr, hf, rfl, ho, hb2⟩; have HR := zac hr; have HF := zac hf; have HO2 := zac ho; have HB2 := zac ((ud HB1).trans (hb2.mono (ud HB1).size)); have HLW := zac (ud HB1).size; clear hr hf ho hb2 HCF r0 r1 r2 r3 r4 r5 r6)
  | (go_at_call 25; refine (new_any w.heap.size _ (Nat.le_trans (ud HB2).size (by rw [zbm]; omega))).mono ?_; rintro e w3 ⟨rfl, hD, hb3, hz3⟩; have hk3 := (hb3.block w2.heap.size (by rw [zbm]; omega)).trans (zag w2 (.cells #[int i64 c.s, int i64 c.le, int i64 c.la, int i64 c.wi, int i64 c.ke, int i64 c.qu, .slice (some ⟨g, 0, none⟩) c.n cp] 27)); have s0 : w3.cell? ⟨w2.heap.size, 0, none⟩ = some (int i64 c.s) := (by rw [zab hk3]; rfl); have s1 : w3.cell? ⟨w2.heap.size, 1, none⟩ = some (int i64 c.le) := (by rw [zab hk3]; rfl); have s2 : w3.cell? ⟨w2.heap.size, 2, none⟩ = some (int i64 c.la) := (by rw [zab hk3]; rfl); have s3 : w3.cell? ⟨w2.heap.size, 3, none⟩ = some (int i64 c.wi) := (by rw [zab hk3]; rfl); have s4 : w3.cell? ⟨w2.heap.size, 4, none⟩ = some (int i64 c.ke) := (by rw [zab hk3]; rfl); have s5 : w3.cell? ⟨w2.heap.size, 5, none⟩ = some (int i64 c.qu) := (by rw [zab hk3]; rfl); have s6 : w3.cell? ⟨w2.heap.size, 6, none⟩ = some (.slice (some ⟨g, 0, none⟩) c.n cp) := (by rw [zab hk3]; rfl); have hk3l := zaa hk3; have ho3 := zff ((ud HO2).alloc (.cells #[int i64 c.s, int i64 c.le, int i64 c.la, int i64 c.wi, int i64 c.ke, int i64 c.qu, .slice (some ⟨g, 0, none⟩) c.n cp] 27)) hb3; have hz4 : w3.heap.size = w2.heap.size + 2 := (by rw [hz3, zbm]); have hd4 : zba 119 185 w.heap.size w3 (w2.heap.size + 1) newS (.slice none 0 0) := (by rw [zbm] at hD; exact hD); have HCO := zac (copied_any c (right_ok (ud HR)) (some ⟨g, 0, none⟩) cp w3 (TS.of_owns ho3)); have HD := zac hd4; have HC3 := zac hk3; have HO3 := zac ho3; have HZ3 := zac hz4; have HB3 := zac ((ud HB2).trans (((Below.refl w2.heap.size w2).alloc (Nat.le_refl _) (.cells #[int i64 c.s, int i64 c.le, int i64 c.la, int i64 c.wi, int i64 c.ke, int i64 c.qu, .slice (some ⟨g, 0, none⟩) c.n cp] 27)).trans (hb3.mono (by rw [zbm]; omega)) |>.mono (ud HB2).size)); clear hD hb3 hz3 hk3 ho3 hz4 hd4)
  | (go_at_call 27; refine (ud HCO).mono ?_; rintro e w4 ⟨g4, rfl, ho4, hb4⟩; have hk4 := (hb4.block _ (zaa (ud HC3))).trans (ud HC3); have hg4 := (ho4.form (show 0 < c.n from (right_ok (ud HR)).n1)); have hlo4 : ∀ j, (Value.slice (some ⟨g4, 0, none⟩) c.n c.n).ownBlock = some j -> w3.heap.size <= j := (fun j hj => (ho4.lt j hj).1); have HOP := zac (popen_any c (right_ok (ud HR)) (ud HR) (some ⟨g4, 0, none⟩) c.n w.heap.size (w2.heap.size + 1) (.slice none 0 0) w4 (Nat.le_trans (ud HB3).size hb4.size) ((ud HD).later hb4) (fun w' hk => TS.of_owns (zah ho4 hk (fun j hj e => opd_ne (ud HZ3) (hlo4 j hj) e)))); have HC4 := zac hk4; have HO4 := zac (zff (ud HO3) hb4); have HZ4 : Hid (w3.heap.size <= w4.heap.size) := hb4.size; have HB4 := zac ((ud HB3).trans (hb4.mono (ud HB3).size)); clear ho4 hb4 hk4 hg4 hlo4 HCO s0 s1 s2 s3 s4 s5 s6 hk3l)
  | (go_at_call 26; refine (ud HOP).mono ?_; rintro e w5 ⟨i, fs', rfl, hM, _, hk5, _, hlo⟩; have hk6 : zaj (fun k => k = w2.heap.size + 1) w4 w5 := hk5.mono (fun k _ e => (by rcases e with e | e; exact e; cases e)); have hc5 := hk6.heap (ud HC4) (by omega); have t0 : w5.cell? ⟨w2.heap.size, 0, none⟩ = some (int i64 c.s) := (by rw [zab hc5]; rfl); have t1 : w5.cell? ⟨w2.heap.size, 1, none⟩ = some (int i64 c.le) := (by rw [zab hc5]; rfl); have t2 : w5.cell? ⟨w2.heap.size, 2, none⟩ = some (int i64 c.la) := (by rw [zab hc5]; rfl); have t3 : w5.cell? ⟨w2.heap.size, 3, none⟩ = some (int i64 c.wi) := (by rw [zab hc5]; rfl); have t4 : w5.cell? ⟨w2.heap.size, 4, none⟩ = some (int i64 c.ke) := (by rw [zab hc5]; rfl); have t5 : w5.cell? ⟨w2.heap.size, 5, none⟩ = some (int i64 c.qu) := (by rw [zab hc5]; rfl); have t6 : w5.cell? ⟨w2.heap.size, 6, none⟩ = some (.slice (some ⟨g, 0, none⟩) c.n cp) := (by rw [zab hc5]; rfl); have hc5l := zaa hc5; have HM := zac hM; have HK6 := zac hk6; have HLO := zac (fun k hk => (hlo k hk).1); clear hM hk5 hk6 hlo hc5 HOP))
 go_ret
 have hc := right_ok (ud HR)
 have hk6 := ud HK6
 have hz3 := ud HZ3
 have hz4 := ud HZ4
 have hz2 := (ud HB2).size
 have ho5 : w5.ownsRow _ 66 3 (.slice (some ⟨g, 0, none⟩) c.n cp) c.n (row3 c.n c.F c.W c.K) := zah (ud HO4) hk6 (fun j hj e => by have := ((ud HO2).lt j hj).2; omega)
 have hA : Below w5.heap.size w5 (w5.alloc (.cells #[.pointer (some ⟨i.x, 0, none⟩), .pointer (some ⟨w2.heap.size + 1, 0, none⟩), int i64 c.s, int i64 c.le, int i64 c.la, int i64 c.wi, int i64 c.ke, int i64 c.qu, .slice (some ⟨g, 0, none⟩) c.n cp, int i64 0, .slice none 0 0, .slice none 0 0, .slice none 0 0] 44)) := (Below.refl _ _).alloc (Nat.le_refl _) _
 have hb5 : Below w.heap.size w w5 := (ud HB4).trans (hk6.below (ud HB4).size (fun k e => by omega))
 have hlo : ∀ j, zbx i j -> w4.heap.size <= j := ud HLO
 refine ⟨c, w5.heap.size, hc, ud HF, rfl, ⟨⟨w5.heap.size, i, w2.heap.size + 1, .slice (some ⟨g, 0, none⟩) c.n cp, .slice none 0 0, .slice none 0 0, .slice none 0 0⟩, 0, rfl, ⟨zag _ _, (ud HM).later hA, zff (owns_base ho5 (ud HLW)) hA, World.ownsRow_nil _ _ _ _, World.ownsRow_nil _ _ _ _, World.ownsRow_nil _ _ _ _, hb5.size, fun j hj => ?_, fun j hj hm => ?_⟩, rfl, SOk.new hc, Nat.le_refl _, Nat.le_refl _⟩, hb5.trans (hA.mono hb5.size)⟩
 ·have := hlo j hj; omega
 ·have h1 := hlo j hm
  have h2 := (ud HM).foot_lt j hm
  rcases hj with e | e | e | e | e
  ·have : j = w5.heap.size := e
   omega
  ·have := ((ud HO2).lt j e).2; omega
  ·cases e
  ·cases e
  ·cases e
end Go.Proofs.YtpbimdkclnekeaaGreat
