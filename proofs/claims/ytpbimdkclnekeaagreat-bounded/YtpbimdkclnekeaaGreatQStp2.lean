import Derived.Test.YtpbimdkclnekeaaGreatQStp1
import Derived.Test.YtpbimdkclnekeaaGreatQMlz6
import Derived.Test.YtpbimdkclnekeaaGreatQCmt0
import Derived.Test.YtpbimdkclnekeaaGreatQZet3
import Derived.StillTactics

namespace Go.Proofs.YtpbimdkclnekeaaGreat
open Go.RowKit Go.Maps Go.Shelf
set_option linter.unusedVariables false
def TakePost (w w' : World) (B p : Nat) (c : Cf) (ep : Int) (m : MS) (ns : List Nm) (j : Nat) : Prop := ∃ m', Act1 c ep m ns m' ns ∧ Shop w' B p c ep m' ns (j + 1) ∧ Bel B w w' ∧ (m'.num = m.num ∨ m'.num = m.num + 1)
theorem ktok_info : (Tryz.prog.info? 49).map (fun i => (i.zero, i.size, i.bytes)) = some (some (.agg #[.int .i64 0, .int .i64 0]), 2, 16) := by kernel_rfl
theorem kint_info : (Tryz.prog.info? 3).map (fun i => (i.zero, i.size, i.bytes)) = some (some (.int .i64 0), 1, 8) := by kernel_rfl
theorem tok_len2 {w : World} {B : Nat} {v : Value} {ep : Int} {k : Nat} (h : w.ownsRow B 49 2 v (tokL ep k).length ((tokL ep k).flatMap tkV2)) : w.ownsRow B 49 2 v k ((tokL ep k).flatMap tkV2) := by rw [tokL_len] at h; exact h
theorem unt_len2 {w : World} {B : Nat} {v : Value} {ep : Int} {QL : List (Tok × Lse)} {k : Nat} (h : w.ownsRow B 3 1 v (untL ep QL k).length ((untL ep QL k).map (Value.int .i64))) : w.ownsRow B 3 1 v k ((untL ep QL k).map (Value.int .i64)) := by rw [untL_len] at h; exact h
set_option maxRecDepth 20000 in
set_option maxHeartbeats 8000000 in
theorem stake_any {w : World} {B p : Nat} {c : Cf} {ep : Int} {m : MS} {ns : List Nm} {j : Nat} (hs : Shop w B p c ep m ns j) (hc : c.ok) (hf : c.fits) (hep : i64B ep) (slot : Int) (hsl : 0 ≤ slot ∧ slot < c.s) (hj : j < 4398046511104) :
    Calls Tryz.prog 30 #[.pointer (some ⟨p, 0, none⟩), .int .i64 slot] w fun e w' => e = .returned (.bool true) ∧ TakePost w w' B p c ep m ns j := by
  have hsz := hs.size
  obtain ⟨⟨sp, si, sd, sct, snv, skv, suv⟩, k, rfl, h, hk, ho, hkj, hnj⟩ := hs
  dsimp only at *
  obtain ⟨ka, kc, hka⟩ := row_slice h.krow
  obtain ⟨ua, uc, hua⟩ := row_slice h.urow
  rw [tokL_len] at hka
  rw [untL_len] at hua
  dsimp only at hka hua
  subst hka
  subst hua
  have hsp : B ≤ sp := h.lo
  have hle := hc.le
  have hnow := ho.ok.now
  have hu := ho.ok.seg.u0 hc
  have HPI := hide (mpick_any h.mill hc slot hsl hnow ho.tsk (by have := ho.ok.q800 hc; omega) ⟨by omega, by omega⟩ hep ho.qn ⟨hu.1, by omega⟩)
  rw [hk] at HPI
  obtain ⟨c0, -, -, -, -, -, -, -, -, -⟩ := h.cells
  dsimp only at c0
  have hpl := h.lt
  dsimp only at hpl
  have H := hide h
  have HO := hide ho
  have hki : (k : Int) ≤ 4398046511104 := by omega
  obtain ⟨hs1, hs2⟩ := hsl
  obtain ⟨hw1, hw2⟩ := hnow
  obtain ⟨hl1, hl2⟩ := hle
  clear h ho
  go_enter Tryz.func30, Tryz.ntmps30
  go_wp2_with fail
  refine (unhide HPI).mono ?_
  rintro e V (⟨rfl, hbv, hbusy⟩ | ⟨rfl, hbv, hidle⟩ | ⟨p9, hp9, hfr, rfl, hM, hK⟩)
  · clear HPI
    go_wp2_with fail
    go_ret
    have hb2 := hbv.alloc hbv.size (.cells #[.int .i64 0, .int .i64 0, .int .i64 0, .int .i64 0, .int .i64 0, .int .i64 0, .int .i64 0, .int .i64 0, .int .i64 0, .int .i64 0, .int .i64 0] 51)
    exact ⟨rfl, m, Act1.same m ns, Shop.mono ⟨_, k, rfl, (unhide H).later hb2, hk, unhide HO, hkj, hnj⟩ (Nat.le_succ j), Bel.of hb2 hsz, .inl rfl⟩
  · clear HPI
    go_wp2_with fail
    go_ret
    have hb2 := hbv.alloc hbv.size (.cells #[.int .i64 0, .int .i64 0, .int .i64 0, .int .i64 0, .int .i64 0, .int .i64 0, .int .i64 0, .int .i64 0, .int .i64 0, .int .i64 0, .int .i64 0] 51)
    exact ⟨rfl, m, Act1.same m ns, Shop.mono ⟨_, k, rfl, (unhide H).later hb2, hk, unhide HO, hkj, hnj⟩ (Nat.le_succ j), Bel.of hb2 hsz, .inl rfl⟩
  · clear HPI
    have hS1 : ShopAt V B ⟨sp, si, sd, sct, snv, .slice ka k kc, .slice ua k uc⟩ c ep { m with num := (k : Int) + 1, QL := putM m.QL ⟨ep, (k : Int) + 1⟩ ⟨p9.2.kd, p9.2.s, slot, m.now + c.le⟩ } m.now ns (tokL ep k) (untL ep m.QL k) := (unhide H).putMill hM hK
    have hA := (Below.refl V.heap.size V).alloc (Nat.le_refl _) (.cells #[.int .i64 p9.2.kd, .int .i64 p9.2.s.t, .int .i64 p9.2.s.ser, .int .i64 p9.2.s.win, .int .i64 p9.2.since, .int .i64 p9.2.tries, .int .i64 p9.2.rest, .int .i64 ep, .int .i64 ((k : Int) + 1), .int .i64 slot, .int .i64 (m.now + c.le)] 51)
    have hS2 := hS1.later hA
    have hbV : Bel B w V := Bel.mill (unhide H).mill hK hsz (unhide H).mlo
    have HBY := hide (hbV.alloc (Nat.le_trans hsz hbV.size) (.cells #[.int .i64 p9.2.kd, .int .i64 p9.2.s.t, .int .i64 p9.2.s.ser, .int .i64 p9.2.s.win, .int .i64 p9.2.since, .int .i64 p9.2.tries, .int .i64 p9.2.rest, .int .i64 ep, .int .i64 ((k : Int) + 1), .int .i64 slot, .int .i64 (m.now + c.le)] 51))
    have HJB := hide (rlast V (.cells #[.int .i64 p9.2.kd, .int .i64 p9.2.s.t, .int .i64 p9.2.s.ser, .int .i64 p9.2.s.win, .int .i64 p9.2.since, .int .i64 p9.2.tries, .int .i64 p9.2.rest, .int .i64 ep, .int .i64 ((k : Int) + 1), .int .i64 slot, .int .i64 (m.now + c.le)] 51))
    have HSY := hide hS2
    have HACT : Hid (Act1 c ep m ns { m with num := (k : Int) + 1, QL := putM m.QL ⟨ep, (k : Int) + 1⟩ ⟨p9.2.kd, p9.2.s, slot, m.now + c.le⟩ } ns) := by
      have := Act1.taken (c := c) (ep := ep) m ns p9 slot hp9 hfr
      rw [hk] at this
      exact this
    have hpl2 : sp < V.heap.size := hS1.lt
    have hpj : ¬ V.heap.size = sp := by omega
    have hpj' : ¬ sp = V.heap.size := by omega
    clear hS1 hS2 hA hbV hM hK c0 hpl
    go_wp2_with fail
    generalize (V.alloc (.cells #[.int .i64 p9.2.kd, .int .i64 p9.2.s.t, .int .i64 p9.2.s.ser, .int .i64 p9.2.s.win, .int .i64 p9.2.since, .int .i64 p9.2.tries, .int .i64 p9.2.rest, .int .i64 ep, .int .i64 ((k : Int) + 1), .int .i64 slot, .int .i64 (m.now + c.le)] 51)) = Y at *
    generalize hjb : V.heap.size = jb at *
    go_loopw [7] (fun y wr => ∃ (t : Nat), t ≤ k ∧ y = .int .i64 t ∧ Below Y.heap.size Y wr) (fun y _ => k - (intOf y).toNat)
    case atStart => exact ⟨0, Nat.zero_le _, rfl, Below.refl _ _⟩
    case round =>
      obtain ⟨t, htk, rfl, hbr⟩ := hrel
      have hSr := (unhide HSY).later hbr
      have hJr := (hbr.block _ (lt_of_heap (unhide HJB))).trans (unhide HJB)
      have hBr := (unhide HBY).trans (Bel.of hbr (Nat.le_trans hsz (unhide HBY).size))
      obtain ⟨-, -, x3, -, -, -, x9, -, x11, x12⟩ := hSr.cells
      dsimp only at x3 x9 x11 x12
      have xl := hSr.lt
      dsimp only at xl
      have xf := fun j => rfree hSr.head j
      dsimp only at xf
      have j7 : wr.cell? ⟨jb, 7, none⟩ = some (.int .i64 ep) := by rw [rcell hJr]; rfl
      have j8 : wr.cell? ⟨jb, 8, none⟩ = some (.int .i64 ((k : Int) + 1)) := by rw [rcell hJr]; rfl
      have jl := lt_of_heap hJr
      by_cases hlt : t < k
      · have hlti : (t : Int) < k := by omega
        obtain ⟨g, gc, hgv, hgl, hg0, hg1⟩ := tok_form hSr.krow (j := t) (by rw [tokL_len]; exact hlt)
        rw [tokL_len] at hgv
        dsimp only at hgv
        cases hgv
        have hat : (tokL ep k)[t]'(by rw [tokL_len]; exact hlt) = ⟨ep, (t : Int) + 1⟩ := (List.getElem?_eq_some_iff.1 (tokL_at ep k t hlt)).2
        rw [hat] at hg0 hg1
        dsimp only at hg0 hg1
        have hneq : ((t : Int) + 1 == (k : Int) + 1) = false := by simp; omega
        have hneq2 : ((t : Int) == (k : Int)) = false := by simp; omega
        have HBR := hide hbr
        clear hSr hJr hBr hbr hat
        go_wp2_with fail
        go_still (by kernel_rfl)
        go_wp2_with fail
        go_roundw
        case rel => exact ⟨t + 1, by omega, by go_num, (unhide HBR).drew⟩
        case measure => simp [intOf]; omega
      · have hltd : decide ((t : Int) < k) = false := by simp; omega
        have HSR := hide hSr
        have HJR := hide hJr
        have HBR := hide hBr
        have HROW := hide hSr.krow
        clear hSr hJr hBr hbr HSY HJB HBY
        go_wp2_with fail
        rename_i K9 hK9
        refine (fun cont : ∀ (g3 cap3 : Nat) (T : World), Hid (ShopAt T B ⟨sp, si, sd, sct, snv, .slice (some ⟨g3, 0, none⟩) (k + 1) cap3, .slice ua k uc⟩ c ep { m with num := (k : Int) + 1, QL := putM m.QL ⟨ep, (k : Int) + 1⟩ ⟨p9.2.kd, p9.2.s, slot, m.now + c.le⟩ } m.now ns (tokL ep (k + 1)) (untL ep m.QL k)) → Hid (T.heap[jb]? = some (.cells #[.int .i64 p9.2.kd, .int .i64 p9.2.s.t, .int .i64 p9.2.s.ser, .int .i64 p9.2.s.win, .int .i64 p9.2.since, .int .i64 p9.2.tries, .int .i64 p9.2.rest, .int .i64 ep, .int .i64 ((k : Int) + 1), .int .i64 slot, .int .i64 (m.now + c.le)] 51 (0, 0))) → Hid (Bel B w T) → K9 ((?aa : Nat → Nat → Act) g3 cap3) T => ?main) ?hc
        case main =>
          go_region_law (refine step_push rfl (.tmp 48) (.tmp 51) 41 49 2 16 rfl Tryz.underlying41 ktok_info rfl (by decide) B (.slice ka k kc) k ((tokL ep k).flatMap tkV2) (by simp [Act.eval]) (rowns_drew ((tok_len2 (unhide HROW)).alloc _)) wr.heap.size [.int .i64 ep, .int .i64 ((k : Int) + 1)] 49 (0, 0) (by simp [Act.eval]) (rlast_drew wr _) rfl (by simp [Value.oneCell']) ?h63 ?hby ?hbs ?_; (case h63 => (simp only [maxLen]; omega)); (case hby => omega); (case hbs => exact Nat.le_trans (Nat.le_trans hsz (unhide HBR).size) (al_size2 _ _)); intro g3 cap3 w5 hown hgrow0 hat hlt3; have hk5 : Kept (fun k' => (Value.slice ka k kc).ownBlock = some k') wr w5 := Kept.grown ((Kept.refl _ _).alloc _) (rgrown_drew hgrow0) (fun k hk _ => hk); have hp5 := hk5.heap ((unhide HSR).head) (fun e => row_apart (unhide HSR).head (unhide HROW) (by decide) _ e rfl); have d11 : w5.cell? ⟨sp, 11, none⟩ = some (.slice ka k kc) := (by rw [rcell hp5]; rfl); have df := fun j => rfree hp5 j; have dl := lt_of_heap hp5; dsimp only at df dl; have HOWN := hide hown; have HK5 := hide hk5; have HAT := hide hat; clear hown hk5 hp5 hgrow0 hat)
          all_goals
            have hS9 := unhide HSR
            have hown : w5.ownsRow B 49 2 (.slice (some ⟨g3, 0, none⟩) (k + 1) cap3) (tokL ep k ++ [(⟨ep, (k : Int) + 1⟩ : Tok)]).length ((tokL ep k ++ [(⟨ep, (k : Int) + 1⟩ : Tok)]).flatMap tkV2) := by
              rw [List.length_append, tokL_len, List.flatMap_append]
              exact unhide HOWN
            have hS5 := hS9.setToks (unhide HK5) hown (fun q hq => by
              have e : g3 = q := by simpa [Value.ownBlock] using hq
              subst e
              rcases unhide HAT with h | h
              · exact .inl h
              · right; rw [h]; exact al_size2 _ _)
            rw [← tokL_succ] at hS5
            have hb5 : Bel B w w5 := (unhide HBR).trans (Bel.row hS9.krow (by decide) (unhide HK5) (Nat.le_trans hsz (unhide HBR).size))
            have hj5 := (unhide HK5).heap (unhide HJR) (fun e => row_apart (unhide HJR) hS9.krow (by decide) _ e rfl)
            exact cont g3 cap3 _ (hide hS5) (hide ((kept_set0' w5 sp 11 _).heap hj5 hpj)) (hide (hb5.trans (Bel.set ((unhide HK5).heap hS9.head (fun e => row_apart hS9.head hS9.krow (by decide) _ e rfl)) (by decide) hsp _)))
        case hc =>
          intro g3 cap3 T HS HJ HB
          refine hK9 _ _ ?_
          try dsimp only
          clear hK9 HSR HJR HBR HROW x3 x9 x11 x12 xl xf j7 j8 jl
          obtain ⟨-, -, x3, -, -, -, x9, -, -, x12⟩ := (unhide HS).cells
          dsimp only at x3 x9 x12
          have xl := (unhide HS).lt
          dsimp only at xl
          have xf := fun j => rfree (unhide HS).head j
          dsimp only at xf
          have HROW := hide (unhide HS).urow
          have hwr : IntKind.i64.wrap (m.now + c.le) = m.now + c.le := by rw [IntKind.wrap_i64]; omega
          go_wp2_with fail
          rename_i KA hKA
          refine (fun cont : ∀ (g4 cap4 : Nat) (T : World), Hid (ShopAt T B ⟨sp, si, sd, sct, snv, .slice (some ⟨g3, 0, none⟩) (k + 1) cap3, .slice (some ⟨g4, 0, none⟩) (k + 1) cap4⟩ c ep { m with num := (k : Int) + 1, QL := putM m.QL ⟨ep, (k : Int) + 1⟩ ⟨p9.2.kd, p9.2.s, slot, m.now + c.le⟩ } m.now ns (tokL ep (k + 1)) (untL ep m.QL k ++ [m.now + c.le])) → Hid (T.heap[jb]? = some (.cells #[.int .i64 p9.2.kd, .int .i64 p9.2.s.t, .int .i64 p9.2.s.ser, .int .i64 p9.2.s.win, .int .i64 p9.2.since, .int .i64 p9.2.tries, .int .i64 p9.2.rest, .int .i64 ep, .int .i64 ((k : Int) + 1), .int .i64 slot, .int .i64 (m.now + c.le)] 51 (0, 0))) → Hid (Bel B w T) → KA ((?bb : Nat → Nat → Act) g4 cap4) T => ?main2) ?hc2
          case main2 =>
            go_region_law (refine step_push rfl (.tmp 59) (.tmp 70) 42 3 1 8 rfl Tryz.underlying42 kint_info rfl (by decide) B (.slice ua k uc) k ((untL ep m.QL k).map (Value.int .i64)) (by simp [Act.eval]) (rowns_drew ((unt_len2 (unhide HROW)).alloc _)) T.heap.size [.int .i64 (m.now + c.le)] 3 (0, 0) (by simp [Act.eval]) (rlast_drew T _) rfl (by simp [Value.oneCell']) ?h63 ?hby ?hbs ?_; (case h63 => (simp only [maxLen]; omega)); (case hby => omega); (case hbs => exact Nat.le_trans (Nat.le_trans hsz (unhide HB).size) (al_size2 _ _)); intro g4 cap4 w5 hown hgrow0 hat hlt3; have hk5 : Kept (fun k' => (Value.slice ua k uc).ownBlock = some k') T w5 := Kept.grown ((Kept.refl _ _).alloc _) (rgrown_drew hgrow0) (fun k hk _ => hk); have hp5 := hk5.heap ((unhide HS).head) (fun e => row_apart (unhide HS).head (unhide HROW) (by decide) _ e rfl); have d12 : w5.cell? ⟨sp, 12, none⟩ = some (.slice ua k uc) := (by rw [rcell hp5]; rfl); have d3 : w5.cell? ⟨sp, 3, none⟩ = some (.int .i64 c.le) := (by rw [rcell hp5]; rfl); have d9 : w5.cell? ⟨sp, 9, none⟩ = some (.int .i64 m.now) := (by rw [rcell hp5]; rfl); have df := fun j => rfree hp5 j; have dl := lt_of_heap hp5; dsimp only at df dl; have HOWN := hide hown; have HK5 := hide hk5; have HAT := hide hat; clear hown hk5 hp5 hgrow0 hat)
            all_goals
              have hS9 := unhide HS
              have hown : w5.ownsRow B 3 1 (.slice (some ⟨g4, 0, none⟩) (k + 1) cap4) (untL ep m.QL k ++ [m.now + c.le]).length ((untL ep m.QL k ++ [m.now + c.le]).map (Value.int .i64)) := by
                rw [List.length_append, untL_len, List.map_append]
                exact unhide HOWN
              have hS5 := hS9.setUnts (unhide HK5) hown (fun q hq => by
                have e : g4 = q := by simpa [Value.ownBlock] using hq
                subst e
                rcases unhide HAT with h | h
                · exact .inl h
                · right; rw [h]; exact al_size2 _ _)
              have hb5 : Bel B w w5 := (unhide HB).trans (Bel.row hS9.urow (by decide) (unhide HK5) (Nat.le_trans hsz (unhide HB).size))
              have hj5 := (unhide HK5).heap (unhide HJ) (fun e => row_apart (unhide HJ) hS9.urow (by decide) _ e rfl)
              exact cont g4 cap4 _ (hide hS5) (hide ((kept_set0' w5 sp 12 _).heap hj5 hpj)) (hide (hb5.trans (Bel.set ((unhide HK5).heap hS9.head (fun e => row_apart hS9.head hS9.urow (by decide) _ e rfl)) (by decide) hsp _)))
          case hc2 =>
            intro g4 cap4 U HS2 HJ2 HB2
            refine hKA _ _ ?_
            try dsimp only
            clear hKA HS HJ HB HROW x3 x9 x12 xl xf
            obtain ⟨-, -, x3, -, -, -, x9, -, -, -⟩ := (unhide HS2).cells
            dsimp only at x3 x9
            have xl := (unhide HS2).lt
            dsimp only at xl
            have j9 : U.cell? ⟨jb, 9, none⟩ = some (.int .i64 slot) := by rw [rcell (unhide HJ2)]; rfl
            have j10 : U.cell? ⟨jb, 10, none⟩ = some (.int .i64 (m.now + c.le)) := by rw [rcell (unhide HJ2)]; rfl
            have jl := lt_of_heap (unhide HJ2)
            go_wp2_with fail
            go_still (by kernel_rfl)
            go_wp2_with fail
            go_ret
            have hS9 := unhide HS2
            have hu9 : untL ep (putM m.QL ⟨ep, (k : Int) + 1⟩ ⟨p9.2.kd, p9.2.s, slot, m.now + c.le⟩) (k + 1) = untL ep m.QL k ++ [m.now + c.le] := untL_put (unhide HO).ok.nq k _
            rw [← hu9] at hS9
            exact ⟨rfl, _, unhide HACT, ⟨_, k + 1, rfl, hS9.later (Below.refl _ _).drew, by show (k : Int) + 1 = ((k + 1 : Nat) : Int); omega, (unhide HACT).ok hc hf (unhide HO), by omega, by omega⟩, (unhide HB2).drew, .inr (by show (k : Int) + 1 = m.num + 1; omega)⟩
end Go.Proofs.YtpbimdkclnekeaaGreat

namespace Go.Proofs.YtpbimdkclnekeaaGreat
open Go.RowKit Go.Maps Go.Shelf
set_option linter.unusedVariables false
def EndPost (w w' : World) (B p : Nat) (c : Cf) (ep : Int) (m : MS) (ns : List Nm) (j : Nat) : Prop := ∃ m', Act1 c ep m ns m' ns ∧ Shop w' B p c ep m' ns j ∧ Bel B w w'
/-- a shop with k tokens. -/
def ShopK (w : World) (B p : Nat) (c : Cf) (ep : Int) (m : MS) (ns : List Nm) (j k : Nat) : Prop := ∃ s : Shp, s.p = p ∧ ShopAt w B s c ep m m.now ns (tokL ep k) (untL ep m.QL k) ∧ m.num = k ∧ SOk c ep m ns.length ∧ k ≤ j ∧ ns.length ≤ j
theorem ShopK.size {w : World} {B p : Nat} {c : Cf} {ep : Int} {m : MS} {ns : List Nm} {j k : Nat} (h : ShopK w B p c ep m ns j k) : B ≤ w.heap.size := by
  obtain ⟨s, rfl, h2, _⟩ := h
  have := h2.lo; have := h2.lt; omega
theorem sz_sd (X : World) (g i : Nat) (v : Value) : (X.setCell ⟨g, i, none⟩ v).drew.heap.size = X.heap.size := by
  have h : (X.setCell ⟨g, i, none⟩ v).heap.size = X.heap.size := by simp [World.setCell]
  exact h
theorem heap_sd {X : World} {g i k : Nat} {v : Value} (h : ¬ k = g) : (X.setCell ⟨g, i, none⟩ v).drew.heap[k]? = X.heap[k]? := set_other (w := X) h
theorem cell_sd {X : World} {g i k j : Nat} {v : Value} (h : ¬ k = g) : (X.setCell ⟨g, i, none⟩ v).drew.cell? ⟨k, j, none⟩ = X.cell? ⟨k, j, none⟩ := World.cell?_of_block (a := ⟨k, j, none⟩) (heap_sd h)
set_option maxRecDepth 20000 in
set_option maxHeartbeats 8000000 in
theorem sends_no5 {w : World} {B p : Nat} {c : Cf} {ep : Int} {m : MS} {ns : List Nm} {j k : Nat} (hs : ShopK w B p c ep m ns j k) (hc : c.ok) (hf : c.fits) (hep : i64B ep) (kd a b v : Int) (i : Nat) (hik : i < k) (r : Int) (hri : (k : Int) - 1 - r = i) (r0 : 0 ≤ r ∧ r < k) (PK : ∀ W : World, Calls Tryz.prog 29 #[.int .i64 a, .int .i64 k] W fun e w' => e = .returned (.int .i64 r) ∧ w' = W) (hj : j ≤ 4398046511104) (hkd : kd = 5) (hg9 : getM m.QL ⟨ep, (i : Int) + 1⟩ = none) :
    Calls Tryz.prog 31 #[.pointer (some ⟨p, 0, none⟩), .agg #[.int .i64 kd, .int .i64 a, .int .i64 b, .int .i32 v]] w fun e w' => e = .returned (.bool true) ∧ EndPost w w' B p c ep m ns j := by
  have hsz := hs.size
  obtain ⟨⟨sp, si, sd, sct, snv, skv, suv⟩, rfl, h, hk, ho, hkj, hnj⟩ := hs
  dsimp only at *
  obtain ⟨r0, r1⟩ := r0
  have HMW : Hid (∀ q, mfoot si q → q < w.heap.size) := fun q hq => h.mill.foot_lt q hq
  have hsp : B ≤ sp := h.lo
  have hu0 := ho.ok.seg.u0 hc
  have hlen := ho.ok.seg.len400 hc
  have hb0 : Below w.heap.size w (w.alloc (.cells #[.int .i64 kd, .int .i64 a, .int .i64 b, .int .i32 v] 33)) := (Below.refl _ _).alloc (Nat.le_refl _) _
  have q0 := rlast w (.cells #[.int .i64 kd, .int .i64 a, .int .i64 b, .int .i32 v] 33)
  have hX := h.later hb0
  obtain ⟨g, gc, hgv, hgl, hg0, hg1⟩ := tok_form hX.krow (j := i) (by rw [tokL_len]; exact hik)
  obtain ⟨g2, gc2, hgv2, hgl2, hu1, huf⟩ := unt_form hX.urow (j := i) (by rw [untL_len]; exact hik)
  rw [tokL_len] at hgv
  rw [untL_len] at hgv2
  dsimp only at hgv hgv2
  subst hgv
  subst hgv2
  have hat : (tokL ep k)[i]'(by rw [tokL_len]; exact hik) = ⟨ep, (i : Int) + 1⟩ := (List.getElem?_eq_some_iff.1 (tokL_at ep k i hik)).2
  have hau : (untL ep m.QL k)[i]'(by rw [untL_len]; exact hik) = untM m.QL ⟨ep, (i : Int) + 1⟩ := (List.getElem?_eq_some_iff.1 (untL_at ep m.QL k i hik)).2
  rw [hat] at hg0 hg1
  rw [hau] at hu1
  dsimp only at hg0 hg1
  have hset := (hX.setUnt (g := g2) (cap := gc2) (by rw [untL_len]) i 0).later (Below.refl _ _).drew
  obtain ⟨x0, -, -, -, -, -, -, -, x11, x12⟩ := hX.cells
  dsimp only at x0 x11 x12
  have xl := hX.lt
  dsimp only at xl
  have o0 : (w.alloc (.cells #[.int .i64 kd, .int .i64 a, .int .i64 b, .int .i32 v] 33)).cell? ⟨w.heap.size, 0, none⟩ = some (.int .i64 kd) := by rw [rcell q0]; rfl
  have o1 : (w.alloc (.cells #[.int .i64 kd, .int .i64 a, .int .i64 b, .int .i32 v] 33)).cell? ⟨w.heap.size, 1, none⟩ = some (.int .i64 a) := by rw [rcell q0]; rfl
  have ol := lt_of_heap q0
  have hne1 : ¬ g2 = sp := row_apart hX.head hX.urow (by decide) g2 rfl
  have hne2 : ¬ sp = g2 := fun e => hne1 e.symm
  have hne3 : ¬ g2 = g := fun e => rows_apart hX.urow hX.krow (by decide) g2 rfl (by simp [Value.ownBlock, e])
  have hne4 : ¬ g = g2 := fun e => hne3 e.symm
  have how : w.heap.size < (w.alloc (.cells #[.int .i64 kd, .int .i64 a, .int .i64 b, .int .i32 v] 33)).heap.size := ol
  have hne5 : ¬ g2 = w.heap.size := fun e => by have := h.foot_lt g2 (.inr (.inr (.inr (.inr rfl)))); omega
  have hne6 : ¬ w.heap.size = g2 := fun e => hne5 e.symm
  have e1 : IntKind.i64.wrap ((k : Int) - 1) = (k : Int) - 1 := by rw [IntKind.wrap_i64]; omega
  have e2 : IntKind.i64.wrap ((k : Int) - 1 - r) = i := by rw [IntKind.wrap_i64]; omega
  have hik' : (i : Int) < k := by omega
  have hk0 : ((k : Int) == 0) = false := by simp; omega
  have HST1 := hide (mstats_any hset.mill hc ⟨hu0.1, by omega⟩ (by omega))
  have HSET := hide hset
  have Q0 := hide q0
  have hbx : Bel B w (w.alloc (.cells #[.int .i64 kd, .int .i64 a, .int .i64 b, .int .i32 v] 33)) := Bel.of hb0 hsz
  have HBX := hide hbx
  have HX := hide hX
  have HPK := fun W => hide (PK W)
  have HO := hide ho
  have hg2l : B ≤ g2 := (hX.urow.lt g2 rfl).1
  clear h hX hb0 q0 hset hat hau hbx ho PK
  have hkb : (kd == 5) = true := by simp [hkd]
  have hun : untM m.QL ⟨ep, (i : Int) + 1⟩ = 0 := MOk.unt_none hg9
  rw [hun] at hu1
  clear hkd
  go_enter Tryz.func31, Tryz.ntmps31
  go_wp2_with fail
  generalize (w.alloc (.cells #[.int .i64 kd, .int .i64 a, .int .i64 b, .int .i32 v] 33)) = X at *
  refine wp_region_still_lit (by kernel_rfl) (by kernel_rfl) ?_
  repeat still_step
  still_call (unhide (HPK _))
  repeat still_step
  refine wpStill_nil ?_
  go_wp2_with fail
  refine (unhide HST1).mono ?_
  rintro e V1 ⟨rfl, hb1⟩
  have HV1 := hide hb1
  have ol1 : w.heap.size < V1.heap.size := Nat.lt_of_lt_of_le ol (Nat.le_trans (Nat.le_of_eq (sz_sd X g2 i (.int .i64 0)).symm) hb1.size)
  have p0 := (hb1.cell (p := ⟨w.heap.size, 0, none⟩) (by rw [sz_sd]; exact ol)).trans ((cell_sd (i := i) (v := .int .i64 0) hne6).trans o0)
  clear hb1 HST1
  go_wp2_with fail
  have hZS := ((unhide HSET).later (unhide HV1)).later ((Below.refl V1.heap.size V1).alloc (Nat.le_refl _) (.cells #[.int .i64 m.now, .int .i64 (usedL m.L), .int .i64 (tightI (tightB (usedL m.L) c.qu)), .int .i64 ep, .int .i64 (countL m.L 1), .int .i64 (countL m.L 2), .int .i64 (countL m.L 3), .int .i64 m.Gl.length] 37))
  have hZB : Bel B w (V1.alloc (.cells #[.int .i64 m.now, .int .i64 (usedL m.L), .int .i64 (tightI (tightB (usedL m.L) c.qu)), .int .i64 ep, .int .i64 (countL m.L 1), .int .i64 (countL m.L 2), .int .i64 (countL m.L 3), .int .i64 m.Gl.length] 37)) := by
    have k1 := (Bel.unt (i := i) (unhide HX).urow (.int .i64 0)).drew
    have k2 := (unhide HBX).trans k1
    have k3 := k2.trans (Bel.of (unhide HV1) (Nat.le_trans hsz k2.size))
    exact k3.alloc (Nat.le_trans hsz k3.size) _
  have hZW := rlast V1 (.cells #[.int .i64 m.now, .int .i64 (usedL m.L), .int .i64 (tightI (tightB (usedL m.L) c.qu)), .int .i64 ep, .int .i64 (countL m.L 1), .int .i64 (countL m.L 2), .int .i64 (countL m.L 3), .int .i64 m.Gl.length] 37)
  have hOO : V1.heap[w.heap.size]? = some (.cells #[.int .i64 kd, .int .i64 a, .int .i64 b, .int .i32 v] 33 (0, 0)) := ((unhide HV1).block _ (by rw [sz_sd]; exact ol)).trans ((heap_sd hne6).trans (unhide Q0))
  have hZO := (Below.heap_alloc _ (.cells #[.int .i64 m.now, .int .i64 (usedL m.L), .int .i64 (tightI (tightB (usedL m.L) c.qu)), .int .i64 ep, .int .i64 (countL m.L 1), .int .i64 (countL m.L 2), .int .i64 (countL m.L 3), .int .i64 m.Gl.length] 37) _ (lt_of_heap hOO)).trans hOO
  have HNB : Hid (∀ q, mfoot si q → q < V1.heap.size) := fun q hq => Nat.lt_of_lt_of_le ((unhide HX).mill.foot_lt q hq) (Nat.le_trans (Nat.le_of_eq (sz_sd X g2 i (.int .i64 0)).symm) (unhide HV1).size)
  have HNO : Hid (¬ mfoot si w.heap.size) := fun e => by have := (unhide HX).mill.foot_lt _ e; exact absurd (unhide HMW _ e) (by omega)
  have hob : ¬ w.heap.size = V1.heap.size := by have := lt_of_heap hOO; omega
  clear o0 o1 p0 x0 x11 x12 hg0 hg1 hu1 huf hgl hgl2 xl hOO HV1 HSET
  generalize (V1.alloc (.cells #[.int .i64 m.now, .int .i64 (usedL m.L), .int .i64 (tightI (tightB (usedL m.L) c.qu)), .int .i64 ep, .int .i64 (countL m.L 1), .int .i64 (countL m.L 2), .int .i64 (countL m.L 3), .int .i64 m.Gl.length] 37)) = Z at *
  generalize hwb : V1.heap.size = wb at *
  obtain ⟨z0, -, -, -, -, -, -, -, z11, -⟩ := hZS.cells
  dsimp only at z0 z11
  obtain ⟨gz, gzc, hgz, hgzl, t0, t1⟩ := tok_form hZS.krow (j := i) (by rw [tokL_len]; exact hik)
  rw [tokL_len] at hgz
  dsimp only at hgz
  cases hgz
  have hat : (tokL ep k)[i]'(by rw [tokL_len]; exact hik) = ⟨ep, (i : Int) + 1⟩ := (List.getElem?_eq_some_iff.1 (tokL_at ep k i hik)).2
  rw [hat] at t0 t1
  dsimp only at t0 t1
  have zl := hZS.lt
  dsimp only at zl
  have HZS := hide hZS
  have HZB := hide hZB
  have HZW := hide hZW
  have HZO := hide hZO
  have hMZ := (hZS.later (Below.refl _ _).drew).mill
  have HC := hide (fail_no hMZ ⟨ep, (i : Int) + 1⟩ ⟨hep, by unfold i64B; dsimp only; omega⟩ hg9)
  clear hMZ hZS hZB hZW hZO hat
  refine region_tail 11 (by kernel_rfl) (by kernel_rfl) ?_
  simp only [List.take_succ_cons, List.take_zero, List.drop_succ_cons, List.drop_zero]
  repeat still_step
  refine wpStill_nil ?_
  go_wp2_with (first
    | (go_at_call 19; refine (unhide HC).mono ?_; rintro e V2 ⟨rfl, hb2⟩; have hz2 : Below Z.heap.size Z V2 := bel_dd hb2; have hS2 := (unhide HZS).later hz2; have s0 := (hS2.cells).1; dsimp only at s0; have sl := hS2.lt; dsimp only at sl; have HW2 := hide ((hz2.block _ (lt_of_heap (unhide HZW))).trans (unhide HZW)); have HO2 := hide ((hz2.block _ (lt_of_heap (unhide HZO))).trans (unhide HZO)); have HST2 := hide (mstats_any hS2.mill hc ⟨hu0.1, by omega⟩ (by omega)); have HS2 := hide hS2; have HB2 := hide ((unhide HZB).trans (Bel.of hz2 (Nat.le_trans hsz (unhide HZB).size))); clear hb2 hz2 hS2)
    | (go_at_call 13; refine (unhide HST2).mono ?_; rintro e V3 ⟨rfl, hb3⟩; have hw3 := (hb3.block _ (lt_of_heap (unhide HW2))).trans (unhide HW2); have ho3 := (hb3.block _ (lt_of_heap (unhide HO2))).trans (unhide HO2); have w0 : V3.cell? ⟨wb, 0, none⟩ = some (.int .i64 m.now) := (by rw [rcell hw3]; rfl); have w1 : V3.cell? ⟨wb, 1, none⟩ = some (.int .i64 (usedL m.L)) := (by rw [rcell hw3]; rfl); have w2 : V3.cell? ⟨wb, 2, none⟩ = some (.int .i64 (tightI (tightB (usedL m.L) c.qu))) := (by rw [rcell hw3]; rfl); have w3 : V3.cell? ⟨wb, 3, none⟩ = some (.int .i64 ep) := (by rw [rcell hw3]; rfl); have w4 : V3.cell? ⟨wb, 4, none⟩ = some (.int .i64 (countL m.L 1)) := (by rw [rcell hw3]; rfl); have w5 : V3.cell? ⟨wb, 5, none⟩ = some (.int .i64 (countL m.L 2)) := (by rw [rcell hw3]; rfl); have w6 : V3.cell? ⟨wb, 6, none⟩ = some (.int .i64 (countL m.L 3)) := (by rw [rcell hw3]; rfl); have w7 : V3.cell? ⟨wb, 7, none⟩ = some (.int .i64 m.Gl.length) := (by rw [rcell hw3]; rfl); have wl := lt_of_heap hw3; have p0 : V3.cell? ⟨w.heap.size, 0, none⟩ = some (.int .i64 kd) := (by rw [rcell ho3]; rfl); have pl := lt_of_heap ho3; have HB3 := hide hb3; clear hb3 hw3 ho3))
  go_ret
  have hb3 := (unhide HB3).alloc (unhide HB3).size (.cells #[.int .i64 m.now, .int .i64 (usedL m.L), .int .i64 (tightI (tightB (usedL m.L) c.qu)), .int .i64 ep, .int .i64 (countL m.L 1), .int .i64 (countL m.L 2), .int .i64 (countL m.L 3), .int .i64 m.Gl.length] 37)
  have hS3 := (unhide HS2).later hb3
  have e0 : (untL ep m.QL k).set i 0 = untL ep m.QL k := untL_none k i hun
  rw [e0] at hS3
  exact ⟨rfl, m, Act1.same m ns, ⟨_, k, rfl, hS3, hk, unhide HO, hkj, hnj⟩, (unhide HB2).trans (Bel.of hb3 (Nat.le_trans hsz (unhide HB2).size))⟩
set_option maxRecDepth 20000 in
set_option maxHeartbeats 8000000 in
theorem sends_no4 {w : World} {B p : Nat} {c : Cf} {ep : Int} {m : MS} {ns : List Nm} {j k : Nat} (hs : ShopK w B p c ep m ns j k) (hc : c.ok) (hf : c.fits) (hep : i64B ep) (kd a b v : Int) (i : Nat) (hik : i < k) (r : Int) (hri : (k : Int) - 1 - r = i) (r0 : 0 ≤ r ∧ r < k) (PK : ∀ W : World, Calls Tryz.prog 29 #[.int .i64 a, .int .i64 k] W fun e w' => e = .returned (.int .i64 r) ∧ w' = W) (hj : j ≤ 4398046511104) (hkd : ¬ kd = 5) (hg9 : getM m.QL ⟨ep, (i : Int) + 1⟩ = none) :
    Calls Tryz.prog 31 #[.pointer (some ⟨p, 0, none⟩), .agg #[.int .i64 kd, .int .i64 a, .int .i64 b, .int .i32 v]] w fun e w' => e = .returned (.bool true) ∧ EndPost w w' B p c ep m ns j := by
  have hsz := hs.size
  obtain ⟨⟨sp, si, sd, sct, snv, skv, suv⟩, rfl, h, hk, ho, hkj, hnj⟩ := hs
  dsimp only at *
  obtain ⟨r0, r1⟩ := r0
  have HMW : Hid (∀ q, mfoot si q → q < w.heap.size) := fun q hq => h.mill.foot_lt q hq
  have hsp : B ≤ sp := h.lo
  have hu0 := ho.ok.seg.u0 hc
  have hlen := ho.ok.seg.len400 hc
  have hb0 : Below w.heap.size w (w.alloc (.cells #[.int .i64 kd, .int .i64 a, .int .i64 b, .int .i32 v] 33)) := (Below.refl _ _).alloc (Nat.le_refl _) _
  have q0 := rlast w (.cells #[.int .i64 kd, .int .i64 a, .int .i64 b, .int .i32 v] 33)
  have hX := h.later hb0
  obtain ⟨g, gc, hgv, hgl, hg0, hg1⟩ := tok_form hX.krow (j := i) (by rw [tokL_len]; exact hik)
  obtain ⟨g2, gc2, hgv2, hgl2, hu1, huf⟩ := unt_form hX.urow (j := i) (by rw [untL_len]; exact hik)
  rw [tokL_len] at hgv
  rw [untL_len] at hgv2
  dsimp only at hgv hgv2
  subst hgv
  subst hgv2
  have hat : (tokL ep k)[i]'(by rw [tokL_len]; exact hik) = ⟨ep, (i : Int) + 1⟩ := (List.getElem?_eq_some_iff.1 (tokL_at ep k i hik)).2
  have hau : (untL ep m.QL k)[i]'(by rw [untL_len]; exact hik) = untM m.QL ⟨ep, (i : Int) + 1⟩ := (List.getElem?_eq_some_iff.1 (untL_at ep m.QL k i hik)).2
  rw [hat] at hg0 hg1
  rw [hau] at hu1
  dsimp only at hg0 hg1
  have hset := (hX.setUnt (g := g2) (cap := gc2) (by rw [untL_len]) i 0).later (Below.refl _ _).drew
  obtain ⟨x0, -, -, -, -, -, -, -, x11, x12⟩ := hX.cells
  dsimp only at x0 x11 x12
  have xl := hX.lt
  dsimp only at xl
  have o0 : (w.alloc (.cells #[.int .i64 kd, .int .i64 a, .int .i64 b, .int .i32 v] 33)).cell? ⟨w.heap.size, 0, none⟩ = some (.int .i64 kd) := by rw [rcell q0]; rfl
  have o1 : (w.alloc (.cells #[.int .i64 kd, .int .i64 a, .int .i64 b, .int .i32 v] 33)).cell? ⟨w.heap.size, 1, none⟩ = some (.int .i64 a) := by rw [rcell q0]; rfl
  have ol := lt_of_heap q0
  have hne1 : ¬ g2 = sp := row_apart hX.head hX.urow (by decide) g2 rfl
  have hne2 : ¬ sp = g2 := fun e => hne1 e.symm
  have hne3 : ¬ g2 = g := fun e => rows_apart hX.urow hX.krow (by decide) g2 rfl (by simp [Value.ownBlock, e])
  have hne4 : ¬ g = g2 := fun e => hne3 e.symm
  have how : w.heap.size < (w.alloc (.cells #[.int .i64 kd, .int .i64 a, .int .i64 b, .int .i32 v] 33)).heap.size := ol
  have hne5 : ¬ g2 = w.heap.size := fun e => by have := h.foot_lt g2 (.inr (.inr (.inr (.inr rfl)))); omega
  have hne6 : ¬ w.heap.size = g2 := fun e => hne5 e.symm
  have e1 : IntKind.i64.wrap ((k : Int) - 1) = (k : Int) - 1 := by rw [IntKind.wrap_i64]; omega
  have e2 : IntKind.i64.wrap ((k : Int) - 1 - r) = i := by rw [IntKind.wrap_i64]; omega
  have hik' : (i : Int) < k := by omega
  have hk0 : ((k : Int) == 0) = false := by simp; omega
  have HST1 := hide (mstats_any hset.mill hc ⟨hu0.1, by omega⟩ (by omega))
  have HSET := hide hset
  have Q0 := hide q0
  have hbx : Bel B w (w.alloc (.cells #[.int .i64 kd, .int .i64 a, .int .i64 b, .int .i32 v] 33)) := Bel.of hb0 hsz
  have HBX := hide hbx
  have HX := hide hX
  have HPK := fun W => hide (PK W)
  have HO := hide ho
  have hg2l : B ≤ g2 := (hX.urow.lt g2 rfl).1
  clear h hX hb0 q0 hset hat hau hbx ho PK
  have hkb : (kd == 5) = false := by simp [hkd]
  have hun : untM m.QL ⟨ep, (i : Int) + 1⟩ = 0 := MOk.unt_none hg9
  rw [hun] at hu1
  clear hkd
  go_enter Tryz.func31, Tryz.ntmps31
  go_wp2_with fail
  generalize (w.alloc (.cells #[.int .i64 kd, .int .i64 a, .int .i64 b, .int .i32 v] 33)) = X at *
  refine wp_region_still_lit (by kernel_rfl) (by kernel_rfl) ?_
  repeat still_step
  still_call (unhide (HPK _))
  repeat still_step
  refine wpStill_nil ?_
  go_wp2_with fail
  refine (unhide HST1).mono ?_
  rintro e V1 ⟨rfl, hb1⟩
  have HV1 := hide hb1
  have ol1 : w.heap.size < V1.heap.size := Nat.lt_of_lt_of_le ol (Nat.le_trans (Nat.le_of_eq (sz_sd X g2 i (.int .i64 0)).symm) hb1.size)
  have p0 := (hb1.cell (p := ⟨w.heap.size, 0, none⟩) (by rw [sz_sd]; exact ol)).trans ((cell_sd (i := i) (v := .int .i64 0) hne6).trans o0)
  clear hb1 HST1
  go_wp2_with fail
  have hZS := ((unhide HSET).later (unhide HV1)).later ((Below.refl V1.heap.size V1).alloc (Nat.le_refl _) (.cells #[.int .i64 m.now, .int .i64 (usedL m.L), .int .i64 (tightI (tightB (usedL m.L) c.qu)), .int .i64 ep, .int .i64 (countL m.L 1), .int .i64 (countL m.L 2), .int .i64 (countL m.L 3), .int .i64 m.Gl.length] 37))
  have hZB : Bel B w (V1.alloc (.cells #[.int .i64 m.now, .int .i64 (usedL m.L), .int .i64 (tightI (tightB (usedL m.L) c.qu)), .int .i64 ep, .int .i64 (countL m.L 1), .int .i64 (countL m.L 2), .int .i64 (countL m.L 3), .int .i64 m.Gl.length] 37)) := by
    have k1 := (Bel.unt (i := i) (unhide HX).urow (.int .i64 0)).drew
    have k2 := (unhide HBX).trans k1
    have k3 := k2.trans (Bel.of (unhide HV1) (Nat.le_trans hsz k2.size))
    exact k3.alloc (Nat.le_trans hsz k3.size) _
  have hZW := rlast V1 (.cells #[.int .i64 m.now, .int .i64 (usedL m.L), .int .i64 (tightI (tightB (usedL m.L) c.qu)), .int .i64 ep, .int .i64 (countL m.L 1), .int .i64 (countL m.L 2), .int .i64 (countL m.L 3), .int .i64 m.Gl.length] 37)
  have hOO : V1.heap[w.heap.size]? = some (.cells #[.int .i64 kd, .int .i64 a, .int .i64 b, .int .i32 v] 33 (0, 0)) := ((unhide HV1).block _ (by rw [sz_sd]; exact ol)).trans ((heap_sd hne6).trans (unhide Q0))
  have hZO := (Below.heap_alloc _ (.cells #[.int .i64 m.now, .int .i64 (usedL m.L), .int .i64 (tightI (tightB (usedL m.L) c.qu)), .int .i64 ep, .int .i64 (countL m.L 1), .int .i64 (countL m.L 2), .int .i64 (countL m.L 3), .int .i64 m.Gl.length] 37) _ (lt_of_heap hOO)).trans hOO
  have HNB : Hid (∀ q, mfoot si q → q < V1.heap.size) := fun q hq => Nat.lt_of_lt_of_le ((unhide HX).mill.foot_lt q hq) (Nat.le_trans (Nat.le_of_eq (sz_sd X g2 i (.int .i64 0)).symm) (unhide HV1).size)
  have HNO : Hid (¬ mfoot si w.heap.size) := fun e => by have := (unhide HX).mill.foot_lt _ e; exact absurd (unhide HMW _ e) (by omega)
  have hob : ¬ w.heap.size = V1.heap.size := by have := lt_of_heap hOO; omega
  clear o0 o1 p0 x0 x11 x12 hg0 hg1 hu1 huf hgl hgl2 xl hOO HV1 HSET
  generalize (V1.alloc (.cells #[.int .i64 m.now, .int .i64 (usedL m.L), .int .i64 (tightI (tightB (usedL m.L) c.qu)), .int .i64 ep, .int .i64 (countL m.L 1), .int .i64 (countL m.L 2), .int .i64 (countL m.L 3), .int .i64 m.Gl.length] 37)) = Z at *
  generalize hwb : V1.heap.size = wb at *
  obtain ⟨z0, -, -, -, -, -, -, -, z11, -⟩ := hZS.cells
  dsimp only at z0 z11
  obtain ⟨gz, gzc, hgz, hgzl, t0, t1⟩ := tok_form hZS.krow (j := i) (by rw [tokL_len]; exact hik)
  rw [tokL_len] at hgz
  dsimp only at hgz
  cases hgz
  have hat : (tokL ep k)[i]'(by rw [tokL_len]; exact hik) = ⟨ep, (i : Int) + 1⟩ := (List.getElem?_eq_some_iff.1 (tokL_at ep k i hik)).2
  rw [hat] at t0 t1
  dsimp only at t0 t1
  have zl := hZS.lt
  dsimp only at zl
  have HZS := hide hZS
  have HZB := hide hZB
  have HZW := hide hZW
  have HZO := hide hZO
  have hMZ := (hZS.later (Below.refl _ _).drew).mill
  have HC := hide (commit_no hMZ ⟨ep, (i : Int) + 1⟩ ⟨hep, by unfold i64B; dsimp only; omega⟩ hg9)
  clear hMZ hZS hZB hZW hZO hat
  refine region_tail 11 (by kernel_rfl) (by kernel_rfl) ?_
  simp only [List.take_succ_cons, List.take_zero, List.drop_succ_cons, List.drop_zero]
  repeat still_step
  refine wpStill_nil ?_
  go_wp2_with (first
    | (go_at_call 18; refine (unhide HC).mono ?_; rintro e V2 ⟨rfl, hb2⟩; have hz2 : Below Z.heap.size Z V2 := bel_dd hb2; have hS2 := (unhide HZS).later hz2; have s0 := (hS2.cells).1; dsimp only at s0; have sl := hS2.lt; dsimp only at sl; have HW2 := hide ((hz2.block _ (lt_of_heap (unhide HZW))).trans (unhide HZW)); have HO2 := hide ((hz2.block _ (lt_of_heap (unhide HZO))).trans (unhide HZO)); have HST2 := hide (mstats_any hS2.mill hc ⟨hu0.1, by omega⟩ (by omega)); have HS2 := hide hS2; have HB2 := hide ((unhide HZB).trans (Bel.of hz2 (Nat.le_trans hsz (unhide HZB).size))); clear hb2 hz2 hS2)
    | (go_at_call 13; refine (unhide HST2).mono ?_; rintro e V3 ⟨rfl, hb3⟩; have hw3 := (hb3.block _ (lt_of_heap (unhide HW2))).trans (unhide HW2); have ho3 := (hb3.block _ (lt_of_heap (unhide HO2))).trans (unhide HO2); have w0 : V3.cell? ⟨wb, 0, none⟩ = some (.int .i64 m.now) := (by rw [rcell hw3]; rfl); have w1 : V3.cell? ⟨wb, 1, none⟩ = some (.int .i64 (usedL m.L)) := (by rw [rcell hw3]; rfl); have w2 : V3.cell? ⟨wb, 2, none⟩ = some (.int .i64 (tightI (tightB (usedL m.L) c.qu))) := (by rw [rcell hw3]; rfl); have w3 : V3.cell? ⟨wb, 3, none⟩ = some (.int .i64 ep) := (by rw [rcell hw3]; rfl); have w4 : V3.cell? ⟨wb, 4, none⟩ = some (.int .i64 (countL m.L 1)) := (by rw [rcell hw3]; rfl); have w5 : V3.cell? ⟨wb, 5, none⟩ = some (.int .i64 (countL m.L 2)) := (by rw [rcell hw3]; rfl); have w6 : V3.cell? ⟨wb, 6, none⟩ = some (.int .i64 (countL m.L 3)) := (by rw [rcell hw3]; rfl); have w7 : V3.cell? ⟨wb, 7, none⟩ = some (.int .i64 m.Gl.length) := (by rw [rcell hw3]; rfl); have wl := lt_of_heap hw3; have p0 : V3.cell? ⟨w.heap.size, 0, none⟩ = some (.int .i64 kd) := (by rw [rcell ho3]; rfl); have pl := lt_of_heap ho3; have HB3 := hide hb3; clear hb3 hw3 ho3))
  go_ret
  have hb3 := (unhide HB3).alloc (unhide HB3).size (.cells #[.int .i64 m.now, .int .i64 (usedL m.L), .int .i64 (tightI (tightB (usedL m.L) c.qu)), .int .i64 ep, .int .i64 (countL m.L 1), .int .i64 (countL m.L 2), .int .i64 (countL m.L 3), .int .i64 m.Gl.length] 37)
  have hS3 := (unhide HS2).later hb3
  have e0 : (untL ep m.QL k).set i 0 = untL ep m.QL k := untL_none k i hun
  rw [e0] at hS3
  exact ⟨rfl, m, Act1.same m ns, ⟨_, k, rfl, hS3, hk, unhide HO, hkj, hnj⟩, (unhide HB2).trans (Bel.of hb3 (Nat.le_trans hsz (unhide HB2).size))⟩
end Go.Proofs.YtpbimdkclnekeaaGreat
