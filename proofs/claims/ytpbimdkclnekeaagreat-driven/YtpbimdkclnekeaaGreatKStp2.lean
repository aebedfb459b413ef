import Derived.Test.YtpbimdkclnekeaaGreatKStp1
import Derived.Test.YtpbimdkclnekeaaGreatKMlz6

namespace Go.Proofs.YtpbimdkclnekeaaGreat
open Value (int)
open IntKind (i64)
open Go.RowKit Go.Maps Go.Shelf
set_option linter.unusedVariables false
def TakePost (w w' : World) (B p : Nat) (c : Cf) (ep : Int) (m : MS) (ns : List Nm) (j : Nat) : Prop := ∃ m', Act1 c ep m ns m' ns /\ Shop w' B p c ep m' ns (j + 1) /\ Bel B w w' /\ (m'.num = m.num \/ m'.num = m.num + 1)
theorem ktok_info : (Tryz.prog.info? 49).map (fun i => (i.zero, i.size, i.bytes)) = some (some (.agg #[int i64 0, int i64 0]), 2, 16) := by kernel_rfl
theorem kint_info : (Tryz.prog.info? 3).map (fun i => (i.zero, i.size, i.bytes)) = some (some (int i64 0), 1, 8) := by kernel_rfl
theorem tok_len2 {w : World} {B : Nat} {v : Value} {ep : Int} {k : Nat} (h : w.ownsRow B 49 2 v (tokL ep k).length ((tokL ep k).flatMap tkV2)) : w.ownsRow B 49 2 v k ((tokL ep k).flatMap tkV2) := by rw [zbb] at h; exact h
theorem unt_len2 {w : World} {B : Nat} {v : Value} {ep : Int} {QL : List (Tok × Lse)} {k : Nat} (h : w.ownsRow B 3 1 v (zdy ep QL k).length ((zdy ep QL k).map (int i64))) : w.ownsRow B 3 1 v k ((zdy ep QL k).map (int i64)) := by rw [zbk] at h; exact h
set_option maxRecDepth 20000 in
set_option maxHeartbeats 8000000 in
theorem stake_any {w : World} {B p : Nat} {c : Cf} {ep : Int} {m : MS} {ns : List Nm} {j : Nat} (hs : Shop w B p c ep m ns j) (hc : c.ok) (hf : c.fits) (hep : zdg ep) (slot : Int) (hsl : 0 <= slot /\ slot < c.s) (hj : j < 4398046511104) :
  Calls Tryz.prog 30 #[.pointer (some ⟨p, 0, none⟩), int i64 slot] w fun e w' => e = .returned (.bool true) /\ TakePost w w' B p c ep m ns j := by
 have hsz := hs.size
 obtain ⟨⟨sp, si, sd, sct, snv, skv, suv⟩, k, rfl, h, hk, ho, hkj, hnj⟩ := hs
 dsimp only at *
 obtain ⟨ka, kc, hka⟩ := zbt h.krow
 obtain ⟨ua, uc, hua⟩ := zbt h.urow
 rw [zbb] at hka
 rw [zbk] at hua
 dsimp only at hka hua
 subst hka
 subst hua
 have hsp : B <= sp := h.lo
 have hle := hc.le
 have hnow := ho.ok.now
 have hu := ho.ok.seg.u0 hc
 have HPI := zac (mpick_any h.mill hc slot hsl hnow ho.tsk (by have := ho.ok.q800 hc; omega) ⟨by omega, by omega⟩ hep ho.qn ⟨hu.1, by omega⟩)
 rw [hk] at HPI
 obtain ⟨c0, -, -, -, -, -, -, -, -, -⟩ := h.cells
 dsimp only at c0
 have hpl := h.lt
 dsimp only at hpl
 have H := zac h
 have HO := zac ho
 have hki : (k : Int) <= 4398046511104 := by omega
 obtain ⟨hs1, hs2⟩ := hsl
 obtain ⟨hw1, hw2⟩ := hnow
 obtain ⟨hl1, hl2⟩ := hle
 clear h ho
 go_enter Tryz.func30, Tryz.ntmps30
 go_wp2_with fail
 refine (ud HPI).mono ?_
 rintro e V (⟨rfl, hbv, hbusy⟩ | ⟨rfl, hbv, hidle⟩ | ⟨p9, hp9, hfr, rfl, hM, hK⟩)
 ·clear HPI
  go_wp2_with fail
  go_ret
  have hb2 := hbv.alloc hbv.size (.cells #[int i64 0, int i64 0, int i64 0, int i64 0, int i64 0, int i64 0, int i64 0, int i64 0, int i64 0, int i64 0, int i64 0] 51)
  exact ⟨rfl, m, Act1.same m ns, Shop.mono ⟨_, k, rfl, (ud H).later hb2, hk, ud HO, hkj, hnj⟩ (Nat.le_succ j), Bel.of hb2 hsz, .inl rfl⟩
 ·clear HPI
  go_wp2_with fail
  go_ret
  have hb2 := hbv.alloc hbv.size (.cells #[int i64 0, int i64 0, int i64 0, int i64 0, int i64 0, int i64 0, int i64 0, int i64 0, int i64 0, int i64 0, int i64 0] 51)
  exact ⟨rfl, m, Act1.same m ns, Shop.mono ⟨_, k, rfl, (ud H).later hb2, hk, ud HO, hkj, hnj⟩ (Nat.le_succ j), Bel.of hb2 hsz, .inl rfl⟩
 ·clear HPI
  have hS1 : zbn V B ⟨sp, si, sd, sct, snv, .slice ka k kc, .slice ua k uc⟩ c ep { m with num := (k : Int) + 1, QL := zdz m.QL ⟨ep, (k : Int) + 1⟩ ⟨p9.2.kd, p9.2.s, slot, m.now + c.le⟩ } m.now ns (tokL ep k) (zdy ep m.QL k) := (ud H).putMill hM hK
  have hA := (Below.refl V.heap.size V).alloc (Nat.le_refl _) (.cells #[int i64 p9.2.kd, int i64 p9.2.s.t, int i64 p9.2.s.ser, int i64 p9.2.s.win, int i64 p9.2.since, int i64 p9.2.tries, int i64 p9.2.rest, int i64 ep, int i64 ((k : Int) + 1), int i64 slot, int i64 (m.now + c.le)] 51)
  have hS2 := hS1.later hA
  have hbV : Bel B w V := Bel.mill (ud H).mill hK hsz (ud H).mlo
  have HBY := zac (hbV.alloc (Nat.le_trans hsz hbV.size) (.cells #[int i64 p9.2.kd, int i64 p9.2.s.t, int i64 p9.2.s.ser, int i64 p9.2.s.win, int i64 p9.2.since, int i64 p9.2.tries, int i64 p9.2.rest, int i64 ep, int i64 ((k : Int) + 1), int i64 slot, int i64 (m.now + c.le)] 51))
  have HJB := zac (zag V (.cells #[int i64 p9.2.kd, int i64 p9.2.s.t, int i64 p9.2.s.ser, int i64 p9.2.s.win, int i64 p9.2.since, int i64 p9.2.tries, int i64 p9.2.rest, int i64 ep, int i64 ((k : Int) + 1), int i64 slot, int i64 (m.now + c.le)] 51))
  have HSY := zac hS2
  have HACT : Hid (Act1 c ep m ns { m with num := (k : Int) + 1, QL := zdz m.QL ⟨ep, (k : Int) + 1⟩ ⟨p9.2.kd, p9.2.s, slot, m.now + c.le⟩ } ns) := by
   have := Act1.taken (c := c) (ep := ep) m ns p9 slot hp9 hfr
   rw [hk] at this
   exact this
  have hpl2 : sp < V.heap.size := hS1.lt
  have hpj : ¬ V.heap.size = sp := by omega
  have hpj' : ¬ sp = V.heap.size := by omega
  clear hS1 hS2 hA hbV hM hK c0 hpl
  go_wp2_with fail
  generalize (V.alloc (.cells #[int i64 p9.2.kd, int i64 p9.2.s.t, int i64 p9.2.s.ser, int i64 p9.2.s.win, int i64 p9.2.since, int i64 p9.2.tries, int i64 p9.2.rest, int i64 ep, int i64 ((k : Int) + 1), int i64 slot, int i64 (m.now + c.le)] 51)) = Y at *
  generalize hjb : V.heap.size = jb at *
  go_loopw [7] (fun y wr => ∃ (t : Nat), t <= k /\ y = int i64 t /\ Below Y.heap.size Y wr) (fun y _ => k - (intOf y).toNat)
  case atStart => exact ⟨0, Nat.zero_le _, rfl, Below.refl _ _⟩
  case round =>
   obtain ⟨t, htk, rfl, hbr⟩ := hrel
   have hSr := (ud HSY).later hbr
   have hJr := (hbr.block _ (zaa (ud HJB))).trans (ud HJB)
   have hBr := (ud HBY).trans (Bel.of hbr (Nat.le_trans hsz (ud HBY).size))
   obtain ⟨-, -, x3, -, -, -, x9, -, x11, x12⟩ := hSr.cells
   dsimp only at x3 x9 x11 x12
   have xl := hSr.lt
   dsimp only at xl
   have xf := fun j => zax hSr.head j
   dsimp only at xf
   have j7 : wr.cell? ⟨jb, 7, none⟩ = some (int i64 ep) := by rw [zab hJr]; rfl
   have j8 : wr.cell? ⟨jb, 8, none⟩ = some (int i64 ((k : Int) + 1)) := by rw [zab hJr]; rfl
   have jl := zaa hJr
   by_cases hlt : t < k
   ·have hlti : (t : Int) < k := by omega
    obtain ⟨g, gc, hgv, hgl, hg0, hg1⟩ := zfd hSr.krow (j := t) (by rw [zbb]; exact hlt)
    rw [zbb] at hgv
    dsimp only at hgv
    cases hgv
    have hat : (tokL ep k)[t]'(by rw [zbb]; exact hlt) = ⟨ep, (t : Int) + 1⟩ := (List.getElem?_eq_some_iff.1 (tokL_at ep k t hlt)).2
    rw [hat] at hg0 hg1
    dsimp only at hg0 hg1
    have hneq : ((t : Int) + 1 == (k : Int) + 1) = false := by simp; omega
    have hneq2 : ((t : Int) == (k : Int)) = false := by simp; omega
    have HBR := zac hbr
    clear hSr hJr hBr hbr hat
    go_wp2_with fail
    go_still (by kernel_rfl)
    go_wp2_with fail
    go_roundw
    case rel => exact ⟨t + 1, by omega, by go_num, (ud HBR).drew⟩
    case measure => simp [intOf]; omega
   ·have hltd : decide ((t : Int) < k) = false := by simp; omega
    have HSR := zac hSr
    have HJR := zac hJr
    have HBR := zac hBr
    have HROW := zac hSr.krow
    clear hSr hJr hBr hbr HSY HJB HBY
    go_wp2_with fail
    rename_i K9 hK9
    refine (fun cont : ∀ (g3 cap3 : Nat) (T : World), Hid (zbn T B ⟨sp, si, sd, sct, snv, .slice (some ⟨g3, 0, none⟩) (k + 1) cap3, .slice ua k uc⟩ c ep { m with num := (k : Int) + 1, QL := zdz m.QL ⟨ep, (k : Int) + 1⟩ ⟨p9.2.kd, p9.2.s, slot, m.now + c.le⟩ } m.now ns (tokL ep (k + 1)) (zdy ep m.QL k)) -> Hid (T.heap[jb]? = some (.cells #[int i64 p9.2.kd, int i64 p9.2.s.t, int i64 p9.2.s.ser, int i64 p9.2.s.win, int i64 p9.2.since, int i64 p9.2.tries, int i64 p9.2.rest, int i64 ep, int i64 ((k : Int) + 1), int i64 slot, int i64 (m.now + c.le)] 51 (0, 0))) -> Hid (Bel B w T) -> K9 ((?aa : Nat -> Nat -> Act) g3 cap3) T => ?main) ?hc
    case main =>
     go_region_law (refine step_push rfl (.tmp 48) (.tmp 51) 41 49 2 16 rfl Tryz.underlying41 ktok_info rfl (by decide) B (.slice ka k kc) k ((tokL ep k).flatMap tkV2) (by simp [Act.eval]) (rowns_drew ((tok_len2 (ud HROW)).alloc _)) wr.heap.size [int i64 ep, int i64 ((k : Int) + 1)] 49 (0, 0) (by simp [Act.eval]) (rlast_drew wr _) rfl (by simp [Value.oneCell']) ?h63 ?hby ?hbs ?_; (case h63 => (simp only [maxLen]; omega)); (case hby => omega); (case hbs => exact Nat.le_trans (Nat.le_trans hsz (ud HBR).size) (al_size2 _ _)); intro g3 cap3 w5 hown hgrow0 hat hlt3; have hk5 : zaj (fun k' => (Value.slice ka k kc).ownBlock = some k') wr w5 := zaj.grown ((zaj.refl _ _).alloc _) (rgrown_drew hgrow0) (fun k hk _ => hk); have hp5 := hk5.heap ((ud HSR).head) (fun e => zar (ud HSR).head (ud HROW) (by decide) _ e rfl); have d11 : w5.cell? ⟨sp, 11, none⟩ = some (.slice ka k kc) := (by rw [zab hp5]; rfl); have df := fun j => zax hp5 j; have dl := zaa hp5; dsimp only at df dl; have HOWN := zac hown; have HK5 := zac hk5; have HAT := zac hat; clear hown hk5 hp5 hgrow0 hat)
     all_goals
      have hS9 := ud HSR
      have hown : w5.ownsRow B 49 2 (.slice (some ⟨g3, 0, none⟩) (k + 1) cap3) (tokL ep k ++ [(⟨ep, (k : Int) + 1⟩ : Tok)]).length ((tokL ep k ++ [(⟨ep, (k : Int) + 1⟩ : Tok)]).flatMap tkV2) := by
       rw [List.length_append, zbb, List.flatMap_append]
       exact ud HOWN
      have hS5 := hS9.setToks (ud HK5) hown (fun q hq => by
       have e : g3 = q := by simpa [Value.ownBlock] using hq
       subst e
       rcases ud HAT with h | h
       ·exact .inl h
       ·right; rw [h]; exact al_size2 _ _)
      rw [<- tokL_succ] at hS5
      have hb5 : Bel B w w5 := (ud HBR).trans (Bel.row hS9.krow (by decide) (ud HK5) (Nat.le_trans hsz (ud HBR).size))
      have hj5 := (ud HK5).heap (ud HJR) (fun e => zar (ud HJR) hS9.krow (by decide) _ e rfl)
      exact cont g3 cap3 _ (zac hS5) (zac ((kept_set0' w5 sp 11 _).heap hj5 hpj)) (zac (hb5.trans (Bel.set ((ud HK5).heap hS9.head (fun e => zar hS9.head hS9.krow (by decide) _ e rfl)) (by decide) hsp _)))
    case hc =>
     intro g3 cap3 T HS HJ HB
     refine hK9 _ _ ?_
     try dsimp only
     clear hK9 HSR HJR HBR HROW x3 x9 x11 x12 xl xf j7 j8 jl
     obtain ⟨-, -, x3, -, -, -, x9, -, -, x12⟩ := (ud HS).cells
     dsimp only at x3 x9 x12
     have xl := (ud HS).lt
     dsimp only at xl
     have xf := fun j => zax (ud HS).head j
     dsimp only at xf
     have HROW := zac (ud HS).urow
     have hwr : IntKind.i64.wrap (m.now + c.le) = m.now + c.le := by rw [IntKind.wrap_i64]; omega
     go_wp2_with fail
     rename_i KA hKA
     refine (fun cont : ∀ (g4 cap4 : Nat) (T : World), Hid (zbn T B ⟨sp, si, sd, sct, snv, .slice (some ⟨g3, 0, none⟩) (k + 1) cap3, .slice (some ⟨g4, 0, none⟩) (k + 1) cap4⟩ c ep { m with num := (k : Int) + 1, QL := zdz m.QL ⟨ep, (k : Int) + 1⟩ ⟨p9.2.kd, p9.2.s, slot, m.now + c.le⟩ } m.now ns (tokL ep (k + 1)) (zdy ep m.QL k ++ [m.now + c.le])) -> Hid (T.heap[jb]? = some (.cells #[int i64 p9.2.kd, int i64 p9.2.s.t, int i64 p9.2.s.ser, int i64 p9.2.s.win, int i64 p9.2.since, int i64 p9.2.tries, int i64 p9.2.rest, int i64 ep, int i64 ((k : Int) + 1), int i64 slot, int i64 (m.now + c.le)] 51 (0, 0))) -> Hid (Bel B w T) -> KA ((?bb : Nat -> Nat -> Act) g4 cap4) T => ?main2) ?hc2
     case main2 =>
      go_region_law (refine step_push rfl (.tmp 59) (.tmp 70) 42 3 1 8 rfl Tryz.underlying42 kint_info rfl (by decide) B (.slice ua k uc) k ((zdy ep m.QL k).map (int i64)) (by simp [Act.eval]) (rowns_drew ((unt_len2 (ud HROW)).alloc _)) T.heap.size [int i64 (m.now + c.le)] 3 (0, 0) (by simp [Act.eval]) (rlast_drew T _) rfl (by simp [Value.oneCell']) ?h63 ?hby ?hbs ?_; (case h63 => (simp only [maxLen]; omega)); (case hby => omega); (case hbs => exact Nat.le_trans (Nat.le_trans hsz (ud HB).size) (al_size2 _ _)); intro g4 cap4 w5 hown hgrow0 hat hlt3; have hk5 : zaj (fun k' => (Value.slice ua k uc).ownBlock = some k') T w5 := zaj.grown ((zaj.refl _ _).alloc _) (rgrown_drew hgrow0) (fun k hk _ => hk); have hp5 := hk5.heap ((ud HS).head) (fun e => zar (ud HS).head (ud HROW) (by decide) _ e rfl); have d12 : w5.cell? ⟨sp, 12, none⟩ = some (.slice ua k uc) := (by rw [zab hp5]; rfl); have d3 : w5.cell? ⟨sp, 3, none⟩ = some (int i64 c.le) := (by rw [zab hp5]; rfl); have d9 : w5.cell? ⟨sp, 9, none⟩ = some (int i64 m.now) := (by rw [zab hp5]; rfl); have df := fun j => zax hp5 j; have dl := zaa hp5; dsimp only at df dl; have HOWN := zac hown; have HK5 := zac hk5; have HAT := zac hat; clear hown hk5 hp5 hgrow0 hat)
      all_goals
       have hS9 := ud HS
       have hown : w5.ownsRow B 3 1 (.slice (some ⟨g4, 0, none⟩) (k + 1) cap4) (zdy ep m.QL k ++ [m.now + c.le]).length ((zdy ep m.QL k ++ [m.now + c.le]).map (int i64)) := by
        rw [List.length_append, zbk, List.map_append]
        exact ud HOWN
       have hS5 := hS9.setUnts (ud HK5) hown (fun q hq => by
        have e : g4 = q := by simpa [Value.ownBlock] using hq
        subst e
        rcases ud HAT with h | h
        ·exact .inl h
        ·right; rw [h]; exact al_size2 _ _)
       have hb5 : Bel B w w5 := (ud HB).trans (Bel.row hS9.urow (by decide) (ud HK5) (Nat.le_trans hsz (ud HB).size))
       have hj5 := (ud HK5).heap (ud HJ) (fun e => zar (ud HJ) hS9.urow (by decide) _ e rfl)
       exact cont g4 cap4 _ (zac hS5) (zac ((kept_set0' w5 sp 12 _).heap hj5 hpj)) (zac (hb5.trans (Bel.set ((ud HK5).heap hS9.head (fun e => zar hS9.head hS9.urow (by decide) _ e rfl)) (by decide) hsp _)))
     case hc2 =>
      intro g4 cap4 U HS2 HJ2 HB2
      refine hKA _ _ ?_
      try dsimp only
      clear hKA HS HJ HB HROW x3 x9 x12 xl xf
      obtain ⟨-, -, x3, -, -, -, x9, -, -, -⟩ := (ud HS2).cells
      dsimp only at x3 x9
      have xl := (ud HS2).lt
      dsimp only at xl
      have j9 : U.cell? ⟨jb, 9, none⟩ = some (int i64 slot) := by rw [zab (ud HJ2)]; rfl
      have j10 : U.cell? ⟨jb, 10, none⟩ = some (int i64 (m.now + c.le)) := by rw [zab (ud HJ2)]; rfl
      have jl := zaa (ud HJ2)
      go_wp2_with fail
      go_still (by kernel_rfl)
      go_wp2_with fail
      go_ret
      have hS9 := ud HS2
      have hu9 : zdy ep (zdz m.QL ⟨ep, (k : Int) + 1⟩ ⟨p9.2.kd, p9.2.s, slot, m.now + c.le⟩) (k + 1) = zdy ep m.QL k ++ [m.now + c.le] := untL_put (ud HO).ok.nq k _
      rw [<- hu9] at hS9
      exact ⟨rfl, _, ud HACT, ⟨_, k + 1, rfl, hS9.later (Below.refl _ _).drew, by show (k : Int) + 1 = ((k + 1 : Nat) : Int); omega, (ud HACT).ok hc hf (ud HO), by omega, by omega⟩, (ud HB2).drew, .inr (by show (k : Int) + 1 = m.num + 1; omega)⟩
end Go.Proofs.YtpbimdkclnekeaaGreat
