import Derived.Test.YtpbimdkclnekeaaGreatKRef5
import Derived.Test.YtpbimdkclnekeaaGreatKBrd3
import Derived.Test.YtpbimdkclnekeaaGreatKRefE
import Derived.Test.YtpbimdkclnekeaaGreatKConf4
import Derived.Deep.RegionHeld3

namespace Go.Proofs.YtpbimdkclnekeaaGreat
open Value (int)
open IntKind (i64)
open Go.RowKit
set_option linter.unusedVariables false
theorem rowns_drew2 {w : World} {base size n : Nat} {e : TypeId} {v : Value} {xs : List Value} (h : w.ownsRow base e size v n xs) : w.drew.ownsRow base e size v n xs := h
theorem rgrown_drew2 {w w' : World} {row : Option Nat} (h : w.drew.grownBy w' row) : w.grownBy w' row := ⟨h.os, h.tape, h.output, h.size, h.block⟩
theorem rlast_drew2 (w : World) (o : Obj) : (w.alloc o).drew.heap[w.heap.size]? = some o := zag w o
theorem al_size (U : World) (o : Obj) : U.heap.size <= (U.alloc o).drew.heap.size := by show U.heap.size <= (U.alloc o).heap.size; rw [zbm]; omega
theorem div_pos1 (a b : Int) (h1 : 1 <= b) (h2 : b <= a) : 0 < a / b := Int.le_ediv_of_mul_le (by omega) (by omega)
theorem set7c {w : World} {g : Nat} {a b c d e f i : Value} {t : TypeId} {fr : Nat × Nat} (h : w.heap[g]? = some (.cells #[a, b, c, d, e, f, i] t fr)) (x0 x1 x2 x3 x4 x5 x6 : Value) : (((((((w.setCell ⟨g, 0, none⟩ x0).setCell ⟨g, 1, none⟩ x1).setCell ⟨g, 2, none⟩ x2).setCell ⟨g, 3, none⟩ x3).setCell ⟨g, 4, none⟩ x4).setCell ⟨g, 5, none⟩ x5).setCell ⟨g, 6, none⟩ x6).heap[g]? = some (.cells #[x0, x1, x2, x3, x4, x5, x6] t fr) := by
 have h0 : (w.setCell ⟨g, 0, none⟩ x0).heap[g]? = some (.cells #[x0, b, c, d, e, f, i] t fr) := zcu (i := 0) h x0
 have h1 : ((w.setCell ⟨g, 0, none⟩ x0).setCell ⟨g, 1, none⟩ x1).heap[g]? = some (.cells #[x0, x1, c, d, e, f, i] t fr) := zcu (i := 1) h0 x1
 have h2 : (((w.setCell ⟨g, 0, none⟩ x0).setCell ⟨g, 1, none⟩ x1).setCell ⟨g, 2, none⟩ x2).heap[g]? = some (.cells #[x0, x1, x2, d, e, f, i] t fr) := zcu (i := 2) h1 x2
 have h3 : ((((w.setCell ⟨g, 0, none⟩ x0).setCell ⟨g, 1, none⟩ x1).setCell ⟨g, 2, none⟩ x2).setCell ⟨g, 3, none⟩ x3).heap[g]? = some (.cells #[x0, x1, x2, x3, e, f, i] t fr) := zcu (i := 3) h2 x3
 have h4 : (((((w.setCell ⟨g, 0, none⟩ x0).setCell ⟨g, 1, none⟩ x1).setCell ⟨g, 2, none⟩ x2).setCell ⟨g, 3, none⟩ x3).setCell ⟨g, 4, none⟩ x4).heap[g]? = some (.cells #[x0, x1, x2, x3, x4, f, i] t fr) := zcu (i := 4) h3 x4
 have h5 : ((((((w.setCell ⟨g, 0, none⟩ x0).setCell ⟨g, 1, none⟩ x1).setCell ⟨g, 2, none⟩ x2).setCell ⟨g, 3, none⟩ x3).setCell ⟨g, 4, none⟩ x4).setCell ⟨g, 5, none⟩ x5).heap[g]? = some (.cells #[x0, x1, x2, x3, x4, x5, i] t fr) := zcu (i := 5) h4 x5
 have h6 : (((((((w.setCell ⟨g, 0, none⟩ x0).setCell ⟨g, 1, none⟩ x1).setCell ⟨g, 2, none⟩ x2).setCell ⟨g, 3, none⟩ x3).setCell ⟨g, 4, none⟩ x4).setCell ⟨g, 5, none⟩ x5).setCell ⟨g, 6, none⟩ x6).heap[g]? = some (.cells #[x0, x1, x2, x3, x4, x5, x6] t fr) := zcu (i := 6) h5 x6
 exact h6
def cfgPost (w : World) (e : Ending) (w' : World) : Prop := ∃ (c : Cf) (g cap' : Nat), zdh c.s c.le c.la c.wi c.ke c.qu c.n c.F c.W c.K = true /\ c.fits /\ e = .returned (.agg #[int i64 c.s, int i64 c.le, int i64 c.la, int i64 c.wi, int i64 c.ke, int i64 c.qu, .slice (some ⟨g, 0, none⟩) c.n cap']) /\ w'.ownsRow w.heap.size 66 3 (.slice (some ⟨g, 0, none⟩) c.n cap') c.n (row3 c.n c.F c.W c.K) /\ Below w.heap.size w w'
set_option maxRecDepth 20000 in
set_option maxHeartbeats 40000000 in
theorem config_any (s le la wi ke qu : Int) (a : Option Addr) (n cap : Nat) (F0 W0 K0 : Nat -> Int) (w : World) (h1 : -9223372036854775808 <= s /\ s <= 9223372036854775807) (h2 : -9223372036854775808 <= le /\ le <= 9223372036854775807) (h3 : -9223372036854775808 <= la /\ la <= 9223372036854775807) (h4 : -9223372036854775808 <= wi /\ wi <= 9223372036854775807) (h5 : -9223372036854775808 <= ke /\ ke <= 9223372036854775807) (h6 : -9223372036854775808 <= qu /\ qu <= 9223372036854775807) (hts : TS w a n F0 W0 K0) (hn : n <= 140737488355328) (hF : ∀ i, i < n -> -9223372036854775808 <= F0 i /\ F0 i <= 9223372036854775807) (hW : ∀ i, i < n -> -9223372036854775808 <= W0 i /\ W0 i <= 9223372036854775807) (hK : ∀ i, i < n -> -9223372036854775808 <= K0 i /\ K0 i <= 9223372036854775807) :
  Calls Tryz.prog 24 #[.agg #[int i64 s, int i64 le, int i64 la, int i64 wi, int i64 ke, int i64 qu, .slice a n cap]] w (cfgPost w) := by
 obtain ⟨r1, a1, b1, P1⟩ := zdc s 4 h1 (by omega)
 obtain ⟨r2, a2, b2, P2⟩ := zdc le 100 h2 (by omega)
 obtain ⟨r3, a3, b3, P3⟩ := zdc la 101 h3 (by omega)
 obtain ⟨r4, a4, b4, P4⟩ := zdc wi 50 h4 (by omega)
 obtain ⟨r5, a5, b5, P5⟩ := zdc ke 1001 h5 (by omega)
 obtain ⟨r6, a6, b6, P6⟩ := zdc qu 400 h6 (by omega)
 obtain ⟨y0, y1, hbw, yz⟩ := box2 w (.cells #[int i64 s, int i64 le, int i64 la, int i64 wi, int i64 ke, int i64 qu, .slice a n cap] 27) (.cells #[int i64 0, int i64 0, int i64 0, int i64 0, int i64 0, int i64 0, .slice none 0 0] 27)
 have HP1 := fun W => zac (P1 W)
 have HP2 := fun W => zac (P2 W)
 have HP3 := fun W => zac (P3 W)
 have HP4 := fun W => zac (P4 W)
 have HP5 := fun W => zac (P5 W)
 have HP6 := fun W => zac (P6 W)
 clear P1 P2 P3 P4 P5 P6 h1 h2 h3 h4 h5 h6
 have hl := zaa y0
 have c0 : ((w.alloc (.cells #[int i64 s, int i64 le, int i64 la, int i64 wi, int i64 ke, int i64 qu, .slice a n cap] 27)).alloc (.cells #[int i64 0, int i64 0, int i64 0, int i64 0, int i64 0, int i64 0, .slice none 0 0] 27)).cell? ⟨w.heap.size, 0, none⟩ = some (int i64 s) := by rw [zab y0]; rfl
 have c1 : ((w.alloc (.cells #[int i64 s, int i64 le, int i64 la, int i64 wi, int i64 ke, int i64 qu, .slice a n cap] 27)).alloc (.cells #[int i64 0, int i64 0, int i64 0, int i64 0, int i64 0, int i64 0, .slice none 0 0] 27)).cell? ⟨w.heap.size, 1, none⟩ = some (int i64 le) := by rw [zab y0]; rfl
 have c2 : ((w.alloc (.cells #[int i64 s, int i64 le, int i64 la, int i64 wi, int i64 ke, int i64 qu, .slice a n cap] 27)).alloc (.cells #[int i64 0, int i64 0, int i64 0, int i64 0, int i64 0, int i64 0, .slice none 0 0] 27)).cell? ⟨w.heap.size, 2, none⟩ = some (int i64 la) := by rw [zab y0]; rfl
 have c3 : ((w.alloc (.cells #[int i64 s, int i64 le, int i64 la, int i64 wi, int i64 ke, int i64 qu, .slice a n cap] 27)).alloc (.cells #[int i64 0, int i64 0, int i64 0, int i64 0, int i64 0, int i64 0, .slice none 0 0] 27)).cell? ⟨w.heap.size, 3, none⟩ = some (int i64 wi) := by rw [zab y0]; rfl
 have c4 : ((w.alloc (.cells #[int i64 s, int i64 le, int i64 la, int i64 wi, int i64 ke, int i64 qu, .slice a n cap] 27)).alloc (.cells #[int i64 0, int i64 0, int i64 0, int i64 0, int i64 0, int i64 0, .slice none 0 0] 27)).cell? ⟨w.heap.size, 4, none⟩ = some (int i64 ke) := by rw [zab y0]; rfl
 have c5 : ((w.alloc (.cells #[int i64 s, int i64 le, int i64 la, int i64 wi, int i64 ke, int i64 qu, .slice a n cap] 27)).alloc (.cells #[int i64 0, int i64 0, int i64 0, int i64 0, int i64 0, int i64 0, .slice none 0 0] 27)).cell? ⟨w.heap.size, 5, none⟩ = some (int i64 qu) := by rw [zab y0]; rfl
 have HTS := zac hts
 have Y0 := zac y0
 have Y1 := zac y1
 have HBW := zac hbw
 have YZ := zac yz
 clear y0 y1 hbw yz hts
 have e1 : IntKind.i64.wrap (1 + r1) = 1 + r1 := by rw [IntKind.wrap_i64]; omega
 have e2 : IntKind.i64.wrap (1 + r2) = 1 + r2 := by rw [IntKind.wrap_i64]; omega
 have e4 : IntKind.i64.wrap (1 + r4) = 1 + r4 := by rw [IntKind.wrap_i64]; omega
 have e6 : IntKind.i64.wrap (1 + r6) = 1 + r6 := by rw [IntKind.wrap_i64]; omega
 have HF := zac hF
 have HW := zac hW
 have HKK := zac hK
 clear hF hW hK
 go_enter Tryz.func24, Tryz.ntmps24
 go_wp2_with fail
 generalize ((w.alloc (.cells #[int i64 s, int i64 le, int i64 la, int i64 wi, int i64 ke, int i64 qu, .slice a n cap] 27)).alloc (.cells #[int i64 0, int i64 0, int i64 0, int i64 0, int i64 0, int i64 0, .slice none 0 0] 27)) = X at *
 rename_i K1 hK1
 refine (fun cont : K1 ?aa ?ww => ?main) ?hc
 case main =>
  go_region_held3 (fun w' => w'.cell? ⟨w.heap.size, 0, none⟩ = some (int i64 s) /\ w'.cell? ⟨w.heap.size, 1, none⟩ = some (int i64 le) /\ w'.cell? ⟨w.heap.size, 2, none⟩ = some (int i64 la) /\ w'.cell? ⟨w.heap.size, 3, none⟩ = some (int i64 wi) /\ w'.cell? ⟨w.heap.size, 4, none⟩ = some (int i64 ke) /\ w'.cell? ⟨w.heap.size, 5, none⟩ = some (int i64 qu)) (go_keep) (first
   | (go_at_call 29; (first | (with_reducible refine (ud (HP1 _)).mono ?_) | (with_reducible refine (ud (HP2 _)).mono ?_) | (with_reducible refine (ud (HP3 _)).mono ?_) | (with_reducible refine (ud (HP4 _)).mono ?_) | (with_reducible refine (ud (HP5 _)).mono ?_) | (with_reducible refine (ud (HP6 _)).mono ?_)); rintro e W ⟨rfl, hw⟩; subst hw))
  all_goals exact cont
 case hc =>
  refine hK1 _ _ ?_
  clear HP1 HP2 HP3 HP4 HP5 HP6 c0 c1 c2 c3 c4 c5 hK1 e1 e2 e4 e6
  have q0 := zag X (.cells #[int i64 (1 + r1), int i64 (1 + r2), int i64 r3, int i64 (1 + r4), int i64 r5, int i64 (1 + r6), .slice none 0 0] 27)
  have qz := zbm X (.cells #[int i64 (1 + r1), int i64 (1 + r2), int i64 r3, int i64 (1 + r4), int i64 r5, int i64 (1 + r6), .slice none 0 0] 27)
  have hbX : Below X.heap.size X (X.alloc (.cells #[int i64 (1 + r1), int i64 (1 + r2), int i64 r3, int i64 (1 + r4), int i64 r5, int i64 (1 + r6), .slice none 0 0] 27)).drew := ((Below.refl _ _).alloc (Nat.le_refl _) _).drew
  have hl0 : (X.alloc (.cells #[int i64 (1 + r1), int i64 (1 + r2), int i64 r3, int i64 (1 + r4), int i64 r5, int i64 (1 + r6), .slice none 0 0] 27)).drew.heap[X.heap.size]? = some (.cells #[int i64 (1 + r1), int i64 (1 + r2), int i64 r3, int i64 (1 + r4), int i64 r5, int i64 (1 + r6), .slice none 0 0] 27 (0, 0)) := q0
  generalize (X.alloc (.cells #[int i64 (1 + r1), int i64 (1 + r2), int i64 r3, int i64 (1 + r4), int i64 r5, int i64 (1 + r6), .slice none 0 0] 27)).drew = Y at *
  have HBX := zac hbX
  have HL0 := zac hl0
  clear q0 qz hbX hl0
  go_wp2_with fail
  go_loopw [4, 5, 6, 7] (fun i x f v wr => ∃ (k : Nat) (F W K : Nat -> Int) (tv : Value), k <= 4 /\ k <= n /\ i = int i64 k /\ wr.heap[X.heap.size]? = some (.cells #[int i64 (1 + r1), int i64 (1 + r2), int i64 r3, int i64 (1 + r4), int i64 r5, int i64 (1 + r6), tv] 27 (0, 0)) /\ wr.ownsRow X.heap.size 66 3 tv k (row3 k F W K) /\ TiersOk (1 + r4) k F W K /\ Below X.heap.size X wr) (fun i _ _ _ _ => n - (intOf i).toNat)
  case atStart => exact ⟨0, fun _ => 0, fun _ => 0, fun _ => 0, .slice none 0 0, by omega, by omega, rfl, ud HL0, World.ownsRow_nil _ _ _ _, TiersOk.none _ _ _ _, ud HBX⟩
  case round =>
   obtain ⟨k, F, W, K, tv, hk4, hkn, rfl, hhd, hrow, htie, hbr⟩ := hrel
   obtain ⟨ta, tc, htv⟩ := zbt hrow
   subst htv
   have hbw : Below w.heap.size w wr := (ud HBW).trans (hbr.mono (ud HBW).size)
   have hraw := (hbr.block w.heap.size hl).trans (ud Y0)
   have z6 : wr.cell? ⟨w.heap.size, 6, none⟩ = some (.slice a n cap) := by rw [zab hraw]; rfl
   have v0 : wr.cell? ⟨X.heap.size, 0, none⟩ = some (int i64 (1 + r1)) := by rw [zab hhd]; rfl
   have v1 : wr.cell? ⟨X.heap.size, 1, none⟩ = some (int i64 (1 + r2)) := by rw [zab hhd]; rfl
   have v2 : wr.cell? ⟨X.heap.size, 2, none⟩ = some (int i64 r3) := by rw [zab hhd]; rfl
   have v3 : wr.cell? ⟨X.heap.size, 3, none⟩ = some (int i64 (1 + r4)) := by rw [zab hhd]; rfl
   have v4 : wr.cell? ⟨X.heap.size, 4, none⟩ = some (int i64 r5) := by rw [zab hhd]; rfl
   have v5 : wr.cell? ⟨X.heap.size, 5, none⟩ = some (int i64 (1 + r6)) := by rw [zab hhd]; rfl
   have v6 : wr.cell? ⟨X.heap.size, 6, none⟩ = some (.slice ta k tc) := by rw [zab hhd]; rfl
   have vf := fun j => zax hhd j
   have hql := zaa hhd
   have hrl := zaa hraw
   have hk4n : (k : Int) <= 4 := by omega
   by_cases hlt : k < n
   ·have hlti : (k : Int) < n := by omega
    by_cases hl4 : k < 4
    ·have hl4i : (k : Int) < 4 := by omega
     obtain ⟨b, off, rfl, hbz, hcl⟩ := ud HTS (by omega)
     obtain ⟨x0, x1, x2⟩ := hcl k hlt
     have y0 := (hbw.cell (p := ⟨b, off + k * 3, none⟩) hbz).trans x0
     have y1 := (hbw.cell (p := ⟨b, off + k * 3 + 1, none⟩) hbz).trans x1
     have y2 := (hbw.cell (p := ⟨b, off + k * 3 + 2, none⟩) hbz).trans x2
     have hbz' := Nat.lt_of_lt_of_le hbz hbw.size
     obtain ⟨f, f0, f1, PF⟩ := zdc (F0 k) (k + 1) (ud HF k hlt) (by omega)
     have HPF := fun W => zac (PF W)
     clear hcl x0 x1 x2 PF hbz
     generalize hF0 : F0 k = fk at *
     generalize hW0 : W0 k = wk at *
     generalize hK0 : K0 k = kk at *
     have hwk := ud HW k hlt
     have hkk := ud HKK k hlt
     rw [hW0] at hwk
     rw [hK0] at hkk
     have hwl : X.heap.size <= wr.heap.size := hbr.size
     have HLO : Hid (∀ j, (Value.slice ta k tc).ownBlock = some j -> X.heap.size <= j) := fun j hj => (hrow.lt j hj).1
     have HNQ := zac (zar hhd hrow (by decide))
     have HNX : Hid (∀ j, (Value.slice ta k tc).ownBlock = some j -> ¬ j = wr.heap.size) := fun j hj e => by have := (hrow.lt j hj).2; omega
     have ux := zag wr (.cells #[int i64 fk, int i64 wk, int i64 kk] 66)
     have uz := zbm wr (.cells #[int i64 fk, int i64 wk, int i64 kk] 66)
     have hba : Below wr.heap.size wr (wr.alloc (.cells #[int i64 fk, int i64 wk, int i64 kk] 66)) := (Below.refl _ _).alloc (Nat.le_refl _) _
     have HUR := zac (zff hrow hba)
     have uh := (hba.block X.heap.size hql).trans hhd
     have HUH := zac uh
     have HUX := zac ux
     have HUB := zac (hbr.trans (hba.mono hwl))
     have HBS0 : Hid (X.heap.size <= (wr.alloc (.cells #[int i64 fk, int i64 wk, int i64 kk] 66)).heap.size) := Nat.le_trans hwl hba.size
     have u6 : (wr.alloc (.cells #[int i64 fk, int i64 wk, int i64 kk] 66)).cell? ⟨X.heap.size, 6, none⟩ = some (.slice ta k tc) := by rw [zab uh]; rfl
     have uf := fun j => zax uh j
     have ux1 : (wr.alloc (.cells #[int i64 fk, int i64 wk, int i64 kk] 66)).cell? ⟨wr.heap.size, 1, none⟩ = some (int i64 wk) := by rw [zab ux]; rfl
     have ux2 : (wr.alloc (.cells #[int i64 fk, int i64 wk, int i64 kk] 66)).cell? ⟨wr.heap.size, 2, none⟩ = some (int i64 kk) := by rw [zab ux]; rfl
     have ul : X.heap.size < (wr.alloc (.cells #[int i64 fk, int i64 wk, int i64 kk] 66)).heap.size := zaa uh
     have uxl : wr.heap.size < (wr.alloc (.cells #[int i64 fk, int i64 wk, int i64 kk] 66)).heap.size := zaa ux
     clear hba ux uh uz
     have hcase : f = 0 \/ ∃ j : Nat, f = (j : Int) + 1 := by
      by_cases e0 : f = 0
      ·exact .inl e0
      ·exact .inr ⟨(f - 1).toNat, by omega⟩
     rcases hcase with rfl | ⟨j, rfl⟩
     ·go_wp2_with (first | (go_at_call 29; refine (ud (HPF _)).mono ?_; rintro e W1 ⟨rfl, hw1⟩; subst hw1))
      generalize (wr.alloc (.cells #[int i64 fk, int i64 wk, int i64 kk] 66)) = U at *
      have hwd : zbp (1 + r4) W (-1) = (1 + r4) := by simp [zbp]
      have hwb := htie.width (wi := 1 + r4) ⟨by omega, by omega⟩ (f := -1) (by omega) (by omega)
      rw [hwd] at hwb
      obtain ⟨hw1, hw2⟩ := hwb
      have hqp : 0 < 1000 / (1 + r4) := div_pos1 1000 (1 + r4) hw1 hw2
      obtain ⟨rq, q0, q1, PQ⟩ := zdc wk (1000 / (1 + r4)) hwk hqp
      obtain ⟨rk, k0, k1, PK⟩ := zdc kk 1001 hkk (by omega)
      have HQ1 := fun W => zac (PQ W)
      have HQ2 := fun W => zac (PK W)
      have hqq : 1000 / (1 + r4) <= 1000 := Int.ediv_le_self _ (by omega)
      have hwq : IntKind.i64.wrap (1000 / (1 + r4)) = 1000 / (1 + r4) := by rw [IntKind.wrap_i64]; omega
      have hmul : (1 + r4) * (1 + rq) <= 1000 := Int.le_trans (Int.mul_le_mul_of_nonneg_left (by omega) (by omega)) (Int.mul_ediv_self_le (by omega))
      have hmul1 : 1 <= (1 + r4) * (1 + rq) := Int.le_trans (by omega) (Int.mul_le_mul hw1 (show 1 <= 1 + rq by omega) (by omega) (by omega))
      have m1 : IntKind.i64.wrap (1 + rq) = 1 + rq := by rw [IntKind.wrap_i64]; omega
      have m2 : IntKind.i64.wrap ((1 + r4) * (1 + rq)) = (1 + r4) * (1 + rq) := by generalize (1 + r4) * (1 + rq) = z at *; rw [IntKind.wrap_i64]; omega
      have hne0 : ¬ (1 + r4) = 0 := by omega
      have HTM := zac (htie.more (f := -1) (q := 1 + rq) (p := rk) (by omega) (by omega) (by omega) (by rw [hwd]; exact hmul1) (by rw [hwd]; exact hmul) ⟨k0, by omega⟩)
      rw [hwd] at HTM
      have htd : Int.tdiv 1000 ((1 + r4)) = 1000 / (1 + r4) := Int.tdiv_eq_ediv_of_nonneg (by omega)
      clear PQ PK hqp hqq hmul hmul1 hw1 hw2 q0 q1 k0 k1 hwd
      go_region_law (first
       | (refine step_kpick rfl (.tmp 68) (.tmp 70) _ rfl _ _ (by rfl) (by rfl) _ (ud (HQ1 _)) ?_)
       | (refine step_kpick rfl (.tmp 75) (.const (int i64 1001)) _ rfl _ _ (by rfl) (by rfl) _ (ud (HQ2 _)) ?_)
       | (refine step_push rfl (.tmp 64) (.tmp 78) 25 66 3 24 rfl Tryz.underlying25 Tryz.infoTierR rfl (by decide) X.heap.size (.slice ta k tc) k (row3 k F W K) (by rfl) (rowns_drew2 ((ud HUR).alloc _)) U.heap.size [int i64 (-1), int i64 ((1 + r4) * (1 + rq)), int i64 rk] 66 (0, 0) (by rfl) (rlast_drew2 U _) rfl (by simp [Value.oneCell']) ?h63 ?hby ?hbs ?_; (case h63 => (simp only [maxLen]; omega)); (case hby => omega); (case hbs => exact Nat.le_trans (ud HBS0) (al_size _ _)); intro g3 cap3 w5 hown hgrow0 hat hlt3; have hk5 : zaj (fun k' => (Value.slice ta k tc).ownBlock = some k') U w5 := zaj.grown ((zaj.refl _ _).alloc _) (rgrown_drew2 hgrow0) (fun k hk _ => hk); have hp5 := hk5.heap (ud HUH) (fun e => ud HNQ _ e rfl); have hx5 := hk5.heap (ud HUX) (fun e => ud HNX _ e rfl); have d6 : w5.cell? ⟨X.heap.size, 6, none⟩ = some (.slice ta k tc) := (by rw [zab hp5]; rfl); have df := fun j => zax hp5 j; have d1 : w5.cell? ⟨wr.heap.size, 1, none⟩ = some (int i64 wk) := (by rw [zab hx5]; rfl); have d2 : w5.cell? ⟨wr.heap.size, 2, none⟩ = some (int i64 kk) := (by rw [zab hx5]; rfl); have dl : X.heap.size < w5.heap.size := zaa hp5; have dx : wr.heap.size < w5.heap.size := zaa hx5; have hne9 : ¬ wr.heap.size = X.heap.size := (by omega); have HOWN := zac hown; have HK5 := zac hk5; have HP5 := zac hp5; clear hown hk5 hp5 hx5 hgrow0 hat))
      all_goals
       go_wp2_with fail
       go_roundw
       case rel =>
        have hkp : zaj (fun k => k = X.heap.size) w5 (w5.setCell ⟨X.heap.size, 6, none⟩ (.slice (some ⟨g3, 0, none⟩) (k + 1) cap3)) := zae (zaj.refl _ _) rfl
        have ho := ud HOWN
        refine ⟨k + 1, _, _, _, .slice (some ⟨g3, 0, none⟩) (k + 1) cap3, by omega, by omega, by go_num, zcu (i := 6) (ud HP5) _, ?_, ud HTM, ?_⟩
        ·rw [row3_more]; exact zah ho hkp (zar (ud HP5) ho (by decide))
        ·have hb5 := (ud HK5).below (B := X.heap.size) (ud HBS0) (fun k hk => ud HLO k hk)
         exact (ud HUB).trans (hb5.trans (hkp.below (Nat.le_trans (ud HBS0) hb5.size) (fun k e => by omega)))
       case measure => simp [intOf]; omega
     ·have wrf : IntKind.i64.wrap ((j : Int) + 1 - 1) = j := by rw [IntKind.wrap_i64]; omega
      have hj0 : (0 : Int) <= j := by omega
      have hjk : (j : Int) < k := by omega
      obtain ⟨g, gc, hgv, _, hgl⟩ := hrow.form (by omega)
      cases hgv
      have gw : wr.cell? ⟨g, j * 3 + 1, none⟩ = some (int i64 (W j)) := by rw [hrow.cellAt (j * 3 + 1) (by omega), row3_get _ _ _ _ _ (by omega), cell3_1]
      have gw2 : (wr.alloc (.cells #[int i64 fk, int i64 wk, int i64 kk] 66)).cell? ⟨g, j * 3 + 1, none⟩ = some (int i64 (W j)) := (((Below.refl wr.heap.size wr).alloc (Nat.le_refl _) _).cell (p := ⟨g, j * 3 + 1, none⟩) hgl).trans gw
      go_wp2_with (first | (go_at_call 29; refine (ud (HPF _)).mono ?_; rintro e W1 ⟨rfl, hw1⟩; subst hw1))
      generalize (wr.alloc (.cells #[int i64 fk, int i64 wk, int i64 kk] 66)) = U at *
      have hwd : zbp (1 + r4) W (j) = W j := by unfold zbp; rw [if_neg (by omega)]; simp
      have hwb := htie.width (wi := 1 + r4) ⟨by omega, by omega⟩ (f := j) (by omega) (by omega)
      rw [hwd] at hwb
      obtain ⟨hw1, hw2⟩ := hwb
      have hqp : 0 < 1000 / (W j) := div_pos1 1000 (W j) hw1 hw2
      obtain ⟨rq, q0, q1, PQ⟩ := zdc wk (1000 / (W j)) hwk hqp
      obtain ⟨rk, k0, k1, PK⟩ := zdc kk 1001 hkk (by omega)
      have HQ1 := fun W => zac (PQ W)
      have HQ2 := fun W => zac (PK W)
      have hqq : 1000 / (W j) <= 1000 := Int.ediv_le_self _ (by omega)
      have hwq : IntKind.i64.wrap (1000 / (W j)) = 1000 / (W j) := by rw [IntKind.wrap_i64]; omega
      have hmul : (W j) * (1 + rq) <= 1000 := Int.le_trans (Int.mul_le_mul_of_nonneg_left (by omega) (by omega)) (Int.mul_ediv_self_le (by omega))
      have hmul1 : 1 <= (W j) * (1 + rq) := Int.le_trans (by omega) (Int.mul_le_mul hw1 (show 1 <= 1 + rq by omega) (by omega) (by omega))
      have m1 : IntKind.i64.wrap (1 + rq) = 1 + rq := by rw [IntKind.wrap_i64]; omega
      have m2 : IntKind.i64.wrap ((W j) * (1 + rq)) = (W j) * (1 + rq) := by generalize (W j) * (1 + rq) = z at *; rw [IntKind.wrap_i64]; omega
      have hne0 : ¬ (W j) = 0 := by omega
      have HTM := zac (htie.more (f := j) (q := 1 + rq) (p := rk) (by omega) (by omega) (by omega) (by rw [hwd]; exact hmul1) (by rw [hwd]; exact hmul) ⟨k0, by omega⟩)
      rw [hwd] at HTM
      have htd : Int.tdiv 1000 (W j) = 1000 / (W j) := Int.tdiv_eq_ediv_of_nonneg (by omega)
      clear PQ PK hqp hqq hmul hmul1 hw1 hw2 q0 q1 k0 k1 hwd
      go_region_law (first
       | (refine step_kpick rfl (.tmp 68) (.tmp 70) _ rfl _ _ (by rfl) (by rfl) _ (ud (HQ1 _)) ?_)
       | (refine step_kpick rfl (.tmp 75) (.const (int i64 1001)) _ rfl _ _ (by rfl) (by rfl) _ (ud (HQ2 _)) ?_)
       | (refine step_push rfl (.tmp 64) (.tmp 78) 25 66 3 24 rfl Tryz.underlying25 Tryz.infoTierR rfl (by decide) X.heap.size (.slice (some ⟨g, 0, none⟩) k tc) k (row3 k F W K) (by rfl) (rowns_drew2 ((ud HUR).alloc _)) U.heap.size [int i64 (j), int i64 ((W j) * (1 + rq)), int i64 rk] 66 (0, 0) (by rfl) (rlast_drew2 U _) rfl (by simp [Value.oneCell']) ?h63 ?hby ?hbs ?_; (case h63 => (simp only [maxLen]; omega)); (case hby => omega); (case hbs => exact Nat.le_trans (ud HBS0) (al_size _ _)); intro g3 cap3 w5 hown hgrow0 hat hlt3; have hk5 : zaj (fun k' => (Value.slice (some ⟨g, 0, none⟩) k tc).ownBlock = some k') U w5 := zaj.grown ((zaj.refl _ _).alloc _) (rgrown_drew2 hgrow0) (fun k hk _ => hk); have hp5 := hk5.heap (ud HUH) (fun e => ud HNQ _ e rfl); have hx5 := hk5.heap (ud HUX) (fun e => ud HNX _ e rfl); have d6 : w5.cell? ⟨X.heap.size, 6, none⟩ = some (.slice (some ⟨g, 0, none⟩) k tc) := (by rw [zab hp5]; rfl); have df := fun j => zax hp5 j; have d1 : w5.cell? ⟨wr.heap.size, 1, none⟩ = some (int i64 wk) := (by rw [zab hx5]; rfl); have d2 : w5.cell? ⟨wr.heap.size, 2, none⟩ = some (int i64 kk) := (by rw [zab hx5]; rfl); have dl : X.heap.size < w5.heap.size := zaa hp5; have dx : wr.heap.size < w5.heap.size := zaa hx5; have hne9 : ¬ wr.heap.size = X.heap.size := (by omega); have HOWN := zac hown; have HK5 := zac hk5; have HP5 := zac hp5; clear hown hk5 hp5 hx5 hgrow0 hat))
      all_goals
       go_wp2_with fail
       go_roundw
       case rel =>
        have hkp : zaj (fun k => k = X.heap.size) w5 (w5.setCell ⟨X.heap.size, 6, none⟩ (.slice (some ⟨g3, 0, none⟩) (k + 1) cap3)) := zae (zaj.refl _ _) rfl
        have ho := ud HOWN
        refine ⟨k + 1, _, _, _, .slice (some ⟨g3, 0, none⟩) (k + 1) cap3, by omega, by omega, by go_num, zcu (i := 6) (ud HP5) _, ?_, ud HTM, ?_⟩
        ·rw [row3_more]; exact zah ho hkp (zar (ud HP5) ho (by decide))
        ·have hb5 := (ud HK5).below (B := X.heap.size) (ud HBS0) (fun k hk => ud HLO k hk)
         exact (ud HUB).trans (hb5.trans (hkp.below (Nat.le_trans (ud HBS0) hb5.size) (fun k e => by omega)))
       case measure => simp [intOf]; omega
    ·have hl4d : decide ((k : Int) < 4) = false := by simp; omega
     have htr := (hbr.block (w.heap.size + 1) (by have := ud YZ; omega)).trans (ud Y1)
     have t0 : wr.cell? ⟨w.heap.size + 1, 0, none⟩ = some (int i64 0) := by rw [zab htr]; rfl
     have t1 : wr.cell? ⟨w.heap.size + 1, 1, none⟩ = some (int i64 0) := by rw [zab htr]; rfl
     have t2 : wr.cell? ⟨w.heap.size + 1, 2, none⟩ = some (int i64 0) := by rw [zab htr]; rfl
     have t3 : wr.cell? ⟨w.heap.size + 1, 3, none⟩ = some (int i64 0) := by rw [zab htr]; rfl
     have t4 : wr.cell? ⟨w.heap.size + 1, 4, none⟩ = some (int i64 0) := by rw [zab htr]; rfl
     have t5 : wr.cell? ⟨w.heap.size + 1, 5, none⟩ = some (int i64 0) := by rw [zab htr]; rfl
     have t6 : wr.cell? ⟨w.heap.size + 1, 6, none⟩ = some (.slice none 0 0) := by rw [zab htr]; rfl
     have tf := fun j => zax htr j
     have tl := zaa htr
     have HT9 := zac htr
     have HROW := zac hrow
     have HHD := zac hhd
     have HBR := zac hbr
     have HBWR := zac hbw
     have HTI := zac htie
     clear htr hrow hbr hbw htie hraw
     by_cases hk0 : k = 0
     ·exfalso; omega
     ·have hkd : ((k : Int) == 0) = false := by simp; omega
      clear hhd
      go_wp2_with fail
      have hf := set7c (ud HT9) (int i64 (1 + r1)) (int i64 (1 + r2)) (int i64 r3) (int i64 (1 + r4)) (int i64 r5) (int i64 (1 + r6)) (.slice ta k tc)
      have hk9 : zaj (fun k => k = w.heap.size + 1) wr (((((((wr.setCell ⟨w.heap.size + 1, 0, none⟩ (int i64 (1 + r1))).setCell ⟨w.heap.size + 1, 1, none⟩ (int i64 (1 + r2))).setCell ⟨w.heap.size + 1, 2, none⟩ (int i64 r3)).setCell ⟨w.heap.size + 1, 3, none⟩ (int i64 (1 + r4))).setCell ⟨w.heap.size + 1, 4, none⟩ (int i64 r5)).setCell ⟨w.heap.size + 1, 5, none⟩ (int i64 (1 + r6))).setCell ⟨w.heap.size + 1, 6, none⟩ (.slice ta k tc)) := zae (zae (zae (zae (zae (zae (zae (zaj.refl _ _) rfl) rfl) rfl) rfl) rfl) rfl) rfl
      refine bodyPost_ret (v := .agg #[int i64 (1 + r1), int i64 (1 + r2), int i64 r3, int i64 (1 + r4), int i64 r5, int i64 (1 + r6), .slice ta k tc]) (results_cell_row Tryz.results24 _ _ (w.heap.size + 1) _ _ _ _ rfl hf Tryz.underlying27 rfl (by kernel_rfl)) rfl ?_
      have hro := ud HROW
      obtain ⟨g, gc, hgv, _, hgl⟩ := hro.form (by omega)
      cases hgv
      have hxz : X.heap.size = w.heap.size + 2 := ud YZ
      obtain ⟨k1, k2⟩ := right_of (c := ⟨1 + r1, 1 + r2, r3, 1 + r4, r5, 1 + r6, k, F, W, K⟩) (by dsimp only; omega) (by dsimp only; omega) (by dsimp only; omega) (by dsimp only; omega) (by dsimp only; omega) (by dsimp only; omega) (by dsimp only; omega) (ud HTI)
      exact ⟨⟨1 + r1, 1 + r2, r3, 1 + r4, r5, 1 + r6, k, F, W, K⟩, g, tc, k1, k2, rfl, owns_base (zah hro hk9 (fun j hj e => by have := (hro.lt j hj).1; omega)) (by omega), (ud HBWR).trans (hk9.below (ud HBWR).size (fun j e => by omega))⟩
   ·have hltd : decide ((k : Int) < n) = false := by simp; omega
    have htr := (hbr.block (w.heap.size + 1) (by have := ud YZ; omega)).trans (ud Y1)
    have t0 : wr.cell? ⟨w.heap.size + 1, 0, none⟩ = some (int i64 0) := by rw [zab htr]; rfl
    have t1 : wr.cell? ⟨w.heap.size + 1, 1, none⟩ = some (int i64 0) := by rw [zab htr]; rfl
    have t2 : wr.cell? ⟨w.heap.size + 1, 2, none⟩ = some (int i64 0) := by rw [zab htr]; rfl
    have t3 : wr.cell? ⟨w.heap.size + 1, 3, none⟩ = some (int i64 0) := by rw [zab htr]; rfl
    have t4 : wr.cell? ⟨w.heap.size + 1, 4, none⟩ = some (int i64 0) := by rw [zab htr]; rfl
    have t5 : wr.cell? ⟨w.heap.size + 1, 5, none⟩ = some (int i64 0) := by rw [zab htr]; rfl
    have t6 : wr.cell? ⟨w.heap.size + 1, 6, none⟩ = some (.slice none 0 0) := by rw [zab htr]; rfl
    have tf := fun j => zax htr j
    have tl := zaa htr
    have HT9 := zac htr
    have HROW := zac hrow
    have HHD := zac hhd
    have HBR := zac hbr
    have HBWR := zac hbw
    have HTI := zac htie
    clear htr hrow hbr hbw htie hraw
    by_cases hk0 : k = 0
    ·subst hk0
     have hA := (Below.refl wr.heap.size wr).alloc (Nat.le_refl _) (.cells #[int i64 (-1), int i64 (1 + r4), int i64 0] 66)
     have HRA := zac ((ud HROW).alloc (.cells #[int i64 (-1), int i64 (1 + r4), int i64 0] 66))
     have hhA := (hA.block X.heap.size hql).trans hhd
     have HN9 := zac (World.news_of_block (cs := #[int i64 (-1), int i64 (1 + r4), int i64 0]) (zag wr (.cells #[int i64 (-1), int i64 (1 + r4), int i64 0] 66)))
     have hbs9 : X.heap.size <= (wr.alloc (.cells #[int i64 (-1), int i64 (1 + r4), int i64 0] 66)).heap.size := Nat.le_trans (ud HBR).size hA.size
     have HA9 := zac hA
     have HHA := zac hhA
     have HNQ := zac (zar hhA (ud HRA) (by decide))
     have htA := (hA.block (w.heap.size + 1) tl).trans (ud HT9)
     have HTA := zac htA
     have HNT : Hid (∀ j, (Value.slice ta 0 tc).ownBlock = some j -> ¬ j = w.heap.size + 1) := fun j hj e => by have := ((ud HROW).lt j hj).1; have := ud YZ; omega
     have hne9 : ¬ w.heap.size + 1 = X.heap.size := by have := ud YZ; omega
     have hne8 : ¬ X.heap.size = w.heap.size + 1 := fun e => hne9 e.symm
     have hbsz : (0 + 1) * 24 <= 140737488355328 := by omega
     have hml : 0 + 1 <= maxLen := by simp only [maxLen]; omega
     clear hA hhA htA hhd
     go_wp2_with (first | (at_builtin; refine zdv rfl _ _ 25 rfl X.heap.size 66 _ 3 24 Tryz.underlying25 Tryz.infoTierR rfl (by decide) (.slice ta 0 tc) 0 (row3 0 F W K) (by simp [Act.eval]) (ud HRA) ⟨wr.heap.size, 0, none⟩ 1 1 [int i64 (-1), int i64 (1 + r4), int i64 0] (by simp [Act.eval]) rfl (ud HN9) (by simp [Value.oneCell']) (by decide) hml hbsz hbs9 ?_; intro g cap2 w2 hown hold hgrow hat hlt2; have hk5 : zaj (fun k' => (Value.slice ta 0 tc).ownBlock = some k') (wr.alloc (.cells #[int i64 (-1), int i64 (1 + r4), int i64 0] 66)) w2 := zaj.grown (zaj.refl _ _) hgrow (fun k hk _ => hk); have hp5 := hk5.heap (ud HHA) (fun e => ud HNQ _ e rfl); have ht5 := hk5.heap (ud HTA) (fun e => ud HNT _ e rfl); have d0 : w2.cell? ⟨X.heap.size, 0, none⟩ = some (int i64 (1 + r1)) := (by rw [zab hp5]; rfl); have d1 : w2.cell? ⟨X.heap.size, 1, none⟩ = some (int i64 (1 + r2)) := (by rw [zab hp5]; rfl); have d2 : w2.cell? ⟨X.heap.size, 2, none⟩ = some (int i64 r3) := (by rw [zab hp5]; rfl); have d3 : w2.cell? ⟨X.heap.size, 3, none⟩ = some (int i64 (1 + r4)) := (by rw [zab hp5]; rfl); have d4 : w2.cell? ⟨X.heap.size, 4, none⟩ = some (int i64 r5) := (by rw [zab hp5]; rfl); have d5 : w2.cell? ⟨X.heap.size, 5, none⟩ = some (int i64 (1 + r6)) := (by rw [zab hp5]; rfl); have d6 : w2.cell? ⟨X.heap.size, 6, none⟩ = some (.slice ta 0 tc) := (by rw [zab hp5]; rfl); have df := fun j => zax hp5 j; have t0 : w2.cell? ⟨w.heap.size + 1, 0, none⟩ = some (int i64 0) := (by rw [zab ht5]; rfl); have t1 : w2.cell? ⟨w.heap.size + 1, 1, none⟩ = some (int i64 0) := (by rw [zab ht5]; rfl); have t2 : w2.cell? ⟨w.heap.size + 1, 2, none⟩ = some (int i64 0) := (by rw [zab ht5]; rfl); have t3 : w2.cell? ⟨w.heap.size + 1, 3, none⟩ = some (int i64 0) := (by rw [zab ht5]; rfl); have t4 : w2.cell? ⟨w.heap.size + 1, 4, none⟩ = some (int i64 0) := (by rw [zab ht5]; rfl); have t5 : w2.cell? ⟨w.heap.size + 1, 5, none⟩ = some (int i64 0) := (by rw [zab ht5]; rfl); have t6 : w2.cell? ⟨w.heap.size + 1, 6, none⟩ = some (.slice none 0 0) := (by rw [zab ht5]; rfl); have tf := fun j => zax ht5 j; have dl := zaa hp5; have tl2 := zaa ht5; have HOWN := zac hown; have HK5 := zac hk5; have HP5 := zac hp5; have HT5 := zac ht5; clear hown hold hgrow hat hk5 hp5 ht5) | go_in)
     have hk8 : zaj (fun k => k = X.heap.size) w2 (w2.setCell ⟨X.heap.size, 6, none⟩ (.slice (some ⟨g, 0, none⟩) (0 + 1) cap2)) := zae (zaj.refl _ _) rfl
     have hf := set7c (hk8.heap (ud HT5) hne9) (int i64 (1 + r1)) (int i64 (1 + r2)) (int i64 r3) (int i64 (1 + r4)) (int i64 r5) (int i64 (1 + r6)) (.slice (some ⟨g, 0, none⟩) (0 + 1) cap2)
     have hk9 : zaj (fun k => k = X.heap.size \/ k = w.heap.size + 1) w2 ((((((((w2.setCell ⟨X.heap.size, 6, none⟩ (.slice (some ⟨g, 0, none⟩) (0 + 1) cap2)).setCell ⟨w.heap.size + 1, 0, none⟩ (int i64 (1 + r1))).setCell ⟨w.heap.size + 1, 1, none⟩ (int i64 (1 + r2))).setCell ⟨w.heap.size + 1, 2, none⟩ (int i64 r3)).setCell ⟨w.heap.size + 1, 3, none⟩ (int i64 (1 + r4))).setCell ⟨w.heap.size + 1, 4, none⟩ (int i64 r5)).setCell ⟨w.heap.size + 1, 5, none⟩ (int i64 (1 + r6))).setCell ⟨w.heap.size + 1, 6, none⟩ (.slice (some ⟨g, 0, none⟩) (0 + 1) cap2)) := zae (zae (zae (zae (zae (zae (zae (zae (zaj.refl _ _) (.inl rfl)) (.inr rfl)) (.inr rfl)) (.inr rfl)) (.inr rfl)) (.inr rfl)) (.inr rfl)) (.inr rfl)
     refine bodyPost_ret (v := .agg #[int i64 (1 + r1), int i64 (1 + r2), int i64 r3, int i64 (1 + r4), int i64 r5, int i64 (1 + r6), .slice (some ⟨g, 0, none⟩) (0 + 1) cap2]) (results_cell_row Tryz.results24 _ _ (w.heap.size + 1) _ _ _ _ rfl hf Tryz.underlying27 rfl (by kernel_rfl)) rfl ?_
     have hro := ud HOWN
     have hxz : X.heap.size = w.heap.size + 2 := ud YZ
     have hwd : zbp (1 + r4) W (-1) * 1 = 1 + r4 := by simp [zbp]
     have hti := (ud HTI).more (f := -1) (q := 1) (p := 0) (by omega) (by omega) (by omega) (by rw [hwd]; omega) (by rw [hwd]; omega) (by omega)
     rw [hwd] at hti
     obtain ⟨k1, k2⟩ := right_of (c := ⟨1 + r1, 1 + r2, r3, 1 + r4, r5, 1 + r6, 0 + 1, updF F 0 (-1), updF W 0 (1 + r4), updF K 0 0⟩) (by dsimp only; omega) (by dsimp only; omega) (by dsimp only; omega) (by dsimp only; omega) (by dsimp only; omega) (by dsimp only; omega) (by dsimp only; omega) hti
     rw [<- row3_more] at hro
     have hrl : ∀ j, (Value.slice (some ⟨g, 0, none⟩) (0 + 1) cap2).ownBlock = some j -> X.heap.size < j := fun j hj => by
      have h1 := (hro.lt j hj).1
      have h2 := zar (ud HP5) hro (by decide) j hj
      omega
     have hb2 : Below w.heap.size w w2 := (ud HBWR).trans (((ud HA9).mono (ud HBWR).size).trans ((ud HK5).below (Nat.le_trans (ud HBWR).size (ud HA9).size) (fun j hj => by have := ((ud HROW).lt j hj).1; omega)))
     exact ⟨⟨1 + r1, 1 + r2, r3, 1 + r4, r5, 1 + r6, 0 + 1, updF F 0 (-1), updF W 0 (1 + r4), updF K 0 0⟩, g, cap2, k1, k2, rfl, owns_base (zah hro hk9 (fun j hj e => by have := hrl j hj; omega)) (by omega), hb2.trans (hk9.below hb2.size (fun j e => by omega))⟩
    ·have hkd : ((k : Int) == 0) = false := by simp; omega
     clear hhd
     go_wp2_with fail
     have hf := set7c (ud HT9) (int i64 (1 + r1)) (int i64 (1 + r2)) (int i64 r3) (int i64 (1 + r4)) (int i64 r5) (int i64 (1 + r6)) (.slice ta k tc)
     have hk9 : zaj (fun k => k = w.heap.size + 1) wr (((((((wr.setCell ⟨w.heap.size + 1, 0, none⟩ (int i64 (1 + r1))).setCell ⟨w.heap.size + 1, 1, none⟩ (int i64 (1 + r2))).setCell ⟨w.heap.size + 1, 2, none⟩ (int i64 r3)).setCell ⟨w.heap.size + 1, 3, none⟩ (int i64 (1 + r4))).setCell ⟨w.heap.size + 1, 4, none⟩ (int i64 r5)).setCell ⟨w.heap.size + 1, 5, none⟩ (int i64 (1 + r6))).setCell ⟨w.heap.size + 1, 6, none⟩ (.slice ta k tc)) := zae (zae (zae (zae (zae (zae (zae (zaj.refl _ _) rfl) rfl) rfl) rfl) rfl) rfl) rfl
     refine bodyPost_ret (v := .agg #[int i64 (1 + r1), int i64 (1 + r2), int i64 r3, int i64 (1 + r4), int i64 r5, int i64 (1 + r6), .slice ta k tc]) (results_cell_row Tryz.results24 _ _ (w.heap.size + 1) _ _ _ _ rfl hf Tryz.underlying27 rfl (by kernel_rfl)) rfl ?_
     have hro := ud HROW
     obtain ⟨g, gc, hgv, _, hgl⟩ := hro.form (by omega)
     cases hgv
     have hxz : X.heap.size = w.heap.size + 2 := ud YZ
     obtain ⟨k1, k2⟩ := right_of (c := ⟨1 + r1, 1 + r2, r3, 1 + r4, r5, 1 + r6, k, F, W, K⟩) (by dsimp only; omega) (by dsimp only; omega) (by dsimp only; omega) (by dsimp only; omega) (by dsimp only; omega) (by dsimp only; omega) (by dsimp only; omega) (ud HTI)
     exact ⟨⟨1 + r1, 1 + r2, r3, 1 + r4, r5, 1 + r6, k, F, W, K⟩, g, tc, k1, k2, rfl, owns_base (zah hro hk9 (fun j hj e => by have := (hro.lt j hj).1; omega)) (by omega), (ud HBWR).trans (hk9.below (ud HBWR).size (fun j e => by omega))⟩
end Go.Proofs.YtpbimdkclnekeaaGreat
