import Derived.Test.YtpbimdkclnekeaaGreatTConf3
import Derived.Test.YtpbimdkclnekeaaGreatTFits0
import Derived.Deep.WholeRow

namespace Go.Proofs.YtpbimdkclnekeaaGreat
open Value (int)
open IntKind (i64)
open Go.RowKit
set_option maxHeartbeats 1000000 in
theorem refRight_head (s le la wi ke qu : Int) (a : Option Addr) (n cap : Nat) (w : World) (h : headB s le la wi ke qu n = false) :
  Calls Tryz.prog 49 #[.agg #[int i64 s, int i64 le, int i64 la, int i64 wi, int i64 ke, int i64 qu, .slice a n cap]] w fun e w' => e = .returned (int i64 1) /\ Below w.heap.size w w' := by
 cases e0 : inB s 1 4
 ·clear h
  go_enter Tryz.func49, Tryz.ntmps49
  go_wp2_with (go_at_call 99; refine (in_any _ _ _ _).mono ?_; rintro e w' ⟨rfl, rfl⟩)
  go_ret
  exact ⟨rfl, (Below.refl _ _).alloc (Nat.le_refl _) _⟩
 cases e1 : inB le 1 100
 ·clear h
  go_enter Tryz.func49, Tryz.ntmps49
  go_wp2_with (go_at_call 99; refine (in_any _ _ _ _).mono ?_; rintro e w' ⟨rfl, rfl⟩)
  go_ret
  exact ⟨rfl, (Below.refl _ _).alloc (Nat.le_refl _) _⟩
 cases e2 : inB la 0 100
 ·clear h
  go_enter Tryz.func49, Tryz.ntmps49
  go_wp2_with (go_at_call 99; refine (in_any _ _ _ _).mono ?_; rintro e w' ⟨rfl, rfl⟩)
  go_ret
  exact ⟨rfl, (Below.refl _ _).alloc (Nat.le_refl _) _⟩
 cases e3 : inB wi 1 50
 ·clear h
  go_enter Tryz.func49, Tryz.ntmps49
  go_wp2_with (go_at_call 99; refine (in_any _ _ _ _).mono ?_; rintro e w' ⟨rfl, rfl⟩)
  go_ret
  exact ⟨rfl, (Below.refl _ _).alloc (Nat.le_refl _) _⟩
 cases e4 : inB ke 0 1000
 ·clear h
  go_enter Tryz.func49, Tryz.ntmps49
  go_wp2_with (go_at_call 99; refine (in_any _ _ _ _).mono ?_; rintro e w' ⟨rfl, rfl⟩)
  go_ret
  exact ⟨rfl, (Below.refl _ _).alloc (Nat.le_refl _) _⟩
 cases e5 : inB qu 1 400
 ·clear h
  go_enter Tryz.func49, Tryz.ntmps49
  go_wp2_with (go_at_call 99; refine (in_any _ _ _ _).mono ?_; rintro e w' ⟨rfl, rfl⟩)
  go_ret
  exact ⟨rfl, (Below.refl _ _).alloc (Nat.le_refl _) _⟩
 cases e6 : inB (n : Int) 1 4
 ·clear h
  go_enter Tryz.func49, Tryz.ntmps49
  go_wp2_with (go_at_call 99; refine (in_any _ _ _ _).mono ?_; rintro e w' ⟨rfl, rfl⟩)
  go_ret
  exact ⟨rfl, (Below.refl _ _).alloc (Nat.le_refl _) _⟩
 simp [headB, e0, e1, e2, e3, e4, e5, e6] at h
set_option maxHeartbeats 1000000 in
theorem refRight_tail (s le la wi ke qu : Int) (a : Option Addr) (n cap : Nat) (F W K : Nat -> Int) (w : World) (h : TS w a n F W K) (hh : headB s le la wi ke qu n = true) :
  Calls Tryz.prog 49 #[.agg #[int i64 s, int i64 le, int i64 la, int i64 wi, int i64 ke, int i64 qu, .slice a n cap]] w fun e w' => e = .returned (int i64 (codeOf (allB n (tierD n F W K) && allB n (fitD wi F W)))) /\ Below w.heap.size w w' := by
 simp only [headB, Bool.and_eq_true] at hh
 obtain ⟨⟨⟨⟨⟨⟨e0, e1⟩, e2⟩, e3⟩, e4⟩, e5⟩, e6⟩ := hh
 have hn : n <= 4 := by rw [zdr] at e6; omega
 have hwi : 1 <= wi /\ wi <= 1000 := by rw [zdr] at e3; omega
 have hB1 : Below w.heap.size w (w.alloc (.cells #[int i64 s, int i64 le, int i64 la, int i64 wi, int i64 ke, int i64 qu, .slice a n cap] 27)) := (Below.refl _ _).alloc (Nat.le_refl _) _
 go_enter Tryz.func49, Tryz.ntmps49
 go_wp2_with (go_at_call 99; refine (in_any _ _ _ _).mono ?_; rintro e w' ⟨rfl, rfl⟩)
 go_loopw [2, 10, 11, 12, 13, 14] (fun _ y _ _ _ _ wr => ∃ (k : Nat), k <= n /\ y = int i64 k /\ allB k (tierD n F W K) = true /\ Below (w.heap.size + 1) (w.alloc (.cells #[int i64 s, int i64 le, int i64 la, int i64 wi, int i64 ke, int i64 qu, .slice a n cap] 27)) wr) (fun _ y _ _ _ _ _ => n - (intOf y).toNat)
 case atStart => exact ⟨0, Nat.zero_le _, rfl, allB_zero _, Below.refl _ _⟩
 case round =>
  obtain ⟨k, hk, rfl, ha, hb⟩ := hrel
  have HA : Hid (allB k (tierD n F W K) = true) := ha
  clear ha
  have hbw : Below w.heap.size w wr := hB1.trans (hb.mono (by omega))
  have hsz : w.heap.size < wr.heap.size := by have := hb.size; simp at this; omega
  obtain ⟨_, c0, c1, c2, c3, c4, c5, c6⟩ := (CF.made w 27 (0, 0) s le la wi ke qu a n cap).below hb (by omega)
  by_cases hlt : k < n
  ·have hta := h.below hbw
   obtain ⟨b, off, rfl, hbz, hc⟩ := h.below hbw (by omega)
   obtain ⟨h1, h2, h3⟩ := hc k hlt
   have hkn : (k : Int) < n := by omega
   clear hc
   cases f0 : zbj n F (n + 1) k
   ·have HF : Hid ((allB n (tierD n F W K) && allB n (fitD wi F W)) = false) := by show _ = _; rw [zcs _ _ k hlt (by simp [tierD, f0])]; rfl
    go_wp2_with (first | (go_at_call 99; refine (in_any _ _ _ _).mono ?_; rintro e w' ⟨rfl, rfl⟩) | (go_at_call 100; refine (comes_any s le la wi ke qu _ n cap F W K k hlt hn _ (hta.below ((Below.refl _ _).alloc (Nat.le_refl _) _))).mono ?_; rintro e w1 ⟨rfl, hb0⟩; have hb1 : Below wr.heap.size wr w1 := ((Below.refl _ _).alloc (Nat.le_refl _) _).trans (hb0.mono (by simp)); have hx : ∀ o, w1.cell? ⟨wr.heap.size, o, none⟩ = _ := (fun o => (hb0.cell (p := ⟨wr.heap.size, o, none⟩) (by simp)).trans (cell_at _ _ _ _ _ _ rfl)); have x1 := hx 1; have x2 := hx 2; clear hx hb0))
    go_ret
    exact ⟨ret_int (codeOf_false HF.out).symm, hbw.trans (hb1.mono (by omega))⟩
   ·cases f1 : inB (W k) 1 1000
    ·have HF : Hid ((allB n (tierD n F W K) && allB n (fitD wi F W)) = false) := by show _ = _; rw [zcs _ _ k hlt (by simp [tierD, f1])]; rfl
     go_wp2_with (first | (go_at_call 99; refine (in_any _ _ _ _).mono ?_; rintro e w' ⟨rfl, rfl⟩) | (go_at_call 100; refine (comes_any s le la wi ke qu _ n cap F W K k hlt hn _ (hta.below ((Below.refl _ _).alloc (Nat.le_refl _) _))).mono ?_; rintro e w1 ⟨rfl, hb0⟩; have hb1 : Below wr.heap.size wr w1 := ((Below.refl _ _).alloc (Nat.le_refl _) _).trans (hb0.mono (by simp)); have hx : ∀ o, w1.cell? ⟨wr.heap.size, o, none⟩ = _ := (fun o => (hb0.cell (p := ⟨wr.heap.size, o, none⟩) (by simp)).trans (cell_at _ _ _ _ _ _ rfl)); have x1 := hx 1; have x2 := hx 2; clear hx hb0))
     go_ret
     exact ⟨ret_int (codeOf_false HF.out).symm, hbw.trans (hb1.mono (by omega))⟩
    ·cases f2 : inB (K k) 0 1000
     ·have HF : Hid ((allB n (tierD n F W K) && allB n (fitD wi F W)) = false) := by show _ = _; rw [zcs _ _ k hlt (by simp [tierD, f2])]; rfl
      go_wp2_with (first | (go_at_call 99; refine (in_any _ _ _ _).mono ?_; rintro e w' ⟨rfl, rfl⟩) | (go_at_call 100; refine (comes_any s le la wi ke qu _ n cap F W K k hlt hn _ (hta.below ((Below.refl _ _).alloc (Nat.le_refl _) _))).mono ?_; rintro e w1 ⟨rfl, hb0⟩; have hb1 : Below wr.heap.size wr w1 := ((Below.refl _ _).alloc (Nat.le_refl _) _).trans (hb0.mono (by simp)); have hx : ∀ o, w1.cell? ⟨wr.heap.size, o, none⟩ = _ := (fun o => (hb0.cell (p := ⟨wr.heap.size, o, none⟩) (by simp)).trans (cell_at _ _ _ _ _ _ rfl)); have x1 := hx 1; have x2 := hx 2; clear hx hb0))
      go_ret
      exact ⟨ret_int (codeOf_false HF.out).symm, hbw.trans (hb1.mono (by omega))⟩
     ·have HF : Hid (allB (k + 1) (tierD n F W K) = true) := by
       show _ = _
       rw [allB_succ, HA.out]; simp [tierD, f0, f1, f2]
      go_wp2_with (first | (go_at_call 99; refine (in_any _ _ _ _).mono ?_; rintro e w' ⟨rfl, rfl⟩) | (go_at_call 100; refine (comes_any s le la wi ke qu _ n cap F W K k hlt hn _ (hta.below ((Below.refl _ _).alloc (Nat.le_refl _) _))).mono ?_; rintro e w1 ⟨rfl, hb0⟩; have hb1 : Below wr.heap.size wr w1 := ((Below.refl _ _).alloc (Nat.le_refl _) _).trans (hb0.mono (by simp)); have hx : ∀ o, w1.cell? ⟨wr.heap.size, o, none⟩ = _ := (fun o => (hb0.cell (p := ⟨wr.heap.size, o, none⟩) (by simp)).trans (cell_at _ _ _ _ _ _ rfl)); have x1 := hx 1; have x2 := hx 2; clear hx hb0))
      go_roundw
      case rel => exact ⟨k + 1, by omega, by go_num, HF.out, hb.trans (hb1.mono (by omega))⟩
      case measure => simp [intOf]; omega
  ·have e : k = n := by omega
   subst e
   have hW : ∀ i, i < k -> 1 <= W i /\ W i <= 1000 := fun i hi => by
    have := (allB_iff _ _).1 HA.out i hi; simp only [tierD, Bool.and_eq_true, zdr] at this; omega
   have hF : ∀ i, i < k -> -1 <= F i /\ F i < k := fun i hi => by
    have := (allB_iff _ _).1 HA.out i hi; simp only [tierD, Bool.and_eq_true] at this; exact range_of_looks k F i hi this.1.1
   have HA2 : Hid (allB k (tierD k F W K) = true) := HA
   clear HA
   go_wp2
   go_loopw [2, 15, 16] (fun _ y _ wr => ∃ (j : Nat), j <= k /\ y = int i64 j /\ allB j (fitD wi F W) = true /\ Below (w.heap.size + 1) (w.alloc (.cells #[int i64 s, int i64 le, int i64 la, int i64 wi, int i64 ke, int i64 qu, .slice a k cap] 27)) wr) (fun _ y _ _ => k - (intOf y).toNat)
   case atStart => exact ⟨0, Nat.zero_le _, rfl, allB_zero _, hb⟩
   case round =>
    clear hb hbw hsz c0 c1 c2 c3 c4 c5 c6
    obtain ⟨j, hj, rfl, ha, hb⟩ := hrel
    have HA : Hid (allB j (fitD wi F W) = true) := ha
    clear ha
    have hbw : Below w.heap.size w wr := hB1.trans (hb.mono (by omega))
    have hsz : w.heap.size < wr.heap.size := by have := hb.size; simp at this; omega
    obtain ⟨_, c0, c1, c2, c3, c4, c5, c6⟩ := (CF.made w 27 (0, 0) s le la wi ke qu a k cap).below hb (by omega)
    by_cases hlt : j < k
    ·have hta := h.below hbw
     obtain ⟨b, off, rfl, hbz, hc⟩ := h.below hbw (by omega)
     obtain ⟨h1, h2, h3⟩ := hc j hlt
     have hkn : (j : Int) < k := by omega
     have hf := hF j hlt
     clear hc
     have hwb : 1 <= zbr wi W (F j) /\ zbr wi W (F j) <= 1000 := by
      unfold zbr
      by_cases e : F j = -1
      ·rw [if_pos e]; omega
      ·rw [if_neg e]; exact hW _ (by omega)
     obtain ⟨hwb1, hwb2⟩ := hwb
     have hwk := hW j hlt
     by_cases g1 : W j % zbr wi W (F j) = 0
     ·have hq : (W j % zbr wi W (F j) != 0) = false := by simp [g1]
      have HF : Hid (allB (j + 1) (fitD wi F W) = true) := by
       show _ = _
       rw [allB_succ, HA.out]; simp [fitD, g1]
      clear g1
      have hne : Nonempty (zaf wr.heap.size wr) := zaf.some _ _
      have hlc := fun (u : zaf wr.heap.size wr) b o h => u.cell b o h
      go_wp2
      refine zad wr.heap.size (by kernel_rfl) (by kernel_rfl) ?_
      repeat (go_big_quiet_step ((go_at_call 101; exact Calls.later (Nat.le_refl _) (Width_any s le la wi ke qu _ k cap F W K _ hf.1 hf.2 hn _ (hta.below (Subtype.property _))))))
      refine wpQuiet_nil ?_
      rintro ⟨w1, hb1⟩
      clear hlc hne
      obtain ⟨hcc, _⟩ := bcell hb1
      have d6 : w1.cell? ⟨w.heap.size, 6, none⟩ = _ := (hcc _ _ hsz).trans c6
      have d2 : w1.cell? ⟨b, off + j * 3 + 1, none⟩ = _ := (hcc _ _ hbz).trans h2
      clear hcc
      dsimp only
      go_wp2
      go_roundw
      case rel => exact ⟨j + 1, by omega, by go_num, HF.out, hb.trans (hb1.mono (by omega))⟩
      case measure => simp [intOf]; omega
     ·have hq : (W j % zbr wi W (F j) != 0) = true := by simp [g1]
      have HF : Hid ((allB k (tierD k F W K) && allB k (fitD wi F W)) = false) := by show _ = _; rw [zcs k (fitD wi F W) j hlt (by simp [fitD, g1])]; simp
      clear g1
      have hne : Nonempty (zaf wr.heap.size wr) := zaf.some _ _
      have hlc := fun (u : zaf wr.heap.size wr) b o h => u.cell b o h
      go_wp2
      refine zad wr.heap.size (by kernel_rfl) (by kernel_rfl) ?_
      repeat (go_big_quiet_step ((go_at_call 101; exact Calls.later (Nat.le_refl _) (Width_any s le la wi ke qu _ k cap F W K _ hf.1 hf.2 hn _ (hta.below (Subtype.property _))))))
      refine wpQuiet_nil ?_
      rintro ⟨w1, hb1⟩
      clear hlc hne
      obtain ⟨hcc, _⟩ := bcell hb1
      have d6 : w1.cell? ⟨w.heap.size, 6, none⟩ = _ := (hcc _ _ hsz).trans c6
      have d2 : w1.cell? ⟨b, off + j * 3 + 1, none⟩ = _ := (hcc _ _ hbz).trans h2
      clear hcc
      dsimp only
      go_wp2
      go_ret
      exact ⟨ret_int (codeOf_false HF.out).symm, hbw.trans (hb1.mono (by omega))⟩
    ·have e : j = k := by omega
     subst e
     have HT : Hid ((allB j (tierD j F W K) && allB j (fitD wi F W)) = true) := by show _ = _; rw [HA.out, HA2.out]; rfl
     go_wp2
     go_ret
     exact ⟨ret_int (codeOf_true HT.out).symm, hbw⟩
theorem refRight_any (s le la wi ke qu : Int) (a : Option Addr) (n cap : Nat) (F W K : Nat -> Int) (w : World) (h : TS w a n F W K) :
  Calls Tryz.prog 49 #[.agg #[int i64 s, int i64 le, int i64 la, int i64 wi, int i64 ke, int i64 qu, .slice a n cap]] w fun e w' => e = .returned (int i64 (codeOf (zcd s le la wi ke qu n F W K))) /\ Below w.heap.size w w' := by
 rw [right_same]
 cases hh : headB s le la wi ke qu n
 ·rw [codeOf_false (by simp [rightD, hh])]
  exact refRight_head s le la wi ke qu a n cap w hh
 ·have e : rightD s le la wi ke qu n F W K = (allB n (tierD n F W K) && allB n (fitD wi F W)) := by simp [rightD, hh]
  rw [e]
  exact refRight_tail s le la wi ke qu a n cap F W K w h hh
end Go.Proofs.YtpbimdkclnekeaaGreat

namespace Go.Proofs.YtpbimdkclnekeaaGreat
open Go.RowKit
set_option linter.unusedVariables false
theorem Tryz.infoRefP : (Tryz.prog.info? 108).map (fun i => (i.zero, i.size, i.bytes)) = some (some (.pointer none), 1, 8) := by kernel_rfl
theorem heap_second (w : World) (o o2 : Obj) : ((w.alloc o).alloc o2).heap[w.heap.size + 1]? = some o2 := (box2 w o o2).2.1
set_option maxRecDepth 8000 in
set_option maxHeartbeats 4000000 in
theorem views_any {w : World} {po x d r mb mcap : Nat} {c : Cf} {ct td : Value} {ep : Int} (hp : w.heap[po]? = some (zay x d c ct (.slice (some ⟨mb, 0, none⟩) 1 mcap) td ep)) (hmb : w.cell? ⟨mb, 0, none⟩ = some (.pointer (some ⟨r, 0, none⟩))) (hmbl : mb < w.heap.size) :
  Calls Tryz.prog 106 #[.pointer (some ⟨po, 0, none⟩)] w fun e w' => ∃ g cap, e = .returned (.slice (some ⟨g, 0, none⟩) 1 cap) /\ w'.ownsRow 0 108 1 (.slice (some ⟨g, 0, none⟩) 1 cap) 1 [.pointer (some ⟨r, 0, none⟩)] /\ Below w.heap.size w w' := by
 have hpl := zaa hp
 have p9 : w.cell? ⟨po, 9, none⟩ = some (.slice (some ⟨mb, 0, none⟩) 1 mcap) := by have hq := hp; unfold zay at hq; rw [zac hq]; rfl
 have hm0 : 0 < 1 := by decide
 have hm1 : 0 + 1 <= maxLen := by simp [maxLen]
 have hm2 : (0 + 1) * 8 <= 140737488355328 := by omega
 have HP := zab hp
 clear hp
 go_enter Tryz.func106, Tryz.ntmps106
 go_wp2_with fail
 refine wp_loop_rounds 2 ?_
 rw [rounds_succ]
 go_wp2_with (first | (at_builtin; refine zbg rfl _ _ 104 rfl 0 108 _ 1 8 Tryz.underlying104 Tryz.infoRefP rfl (by decide) (.slice none 0 0) 0 [] rfl (World.ownsRow_nil _ _ _ _) ⟨w.heap.size, 0, none⟩ 1 1 [.pointer (some ⟨r, 0, none⟩)] rfl rfl (World.news_of_block (cs := #[.pointer (some ⟨r, 0, none⟩)]) (zap w _)) (by intro u hu; simp at hu; subst hu; rfl) hm0 hm1 hm2 (Nat.zero_le _) ?_; intro g gcap W4 hown4 hold4 hgrow4 hat4 hlt4; have HO4 := zab hown4; have HG4 := zab hgrow4; clear hown4 hold4 hgrow4 hat4) | go_in)
 have hb0 : Below w.heap.size w (w.alloc (.cells #[.pointer (some ⟨r, 0, none⟩)] 108)) := (Below.refl _ _).alloc (Nat.le_refl _) _
 have hb4 : Below w.heap.size w W4 := hb0.grown (show (w.alloc (.cells #[.pointer (some ⟨r, 0, none⟩)] 108)).grownBy W4 none from ud HG4) hb0.size (fun k e => by cases e)
 have hp4 := (hb4.block po hpl).trans (ud HP)
 have k9 : W4.cell? ⟨po, 9, none⟩ = some (.slice (some ⟨mb, 0, none⟩) 1 mcap) := by have hq := hp4; unfold zay at hq; rw [zac hq]; rfl
 have k10 : W4.cell? ⟨po, 10, none⟩ = some (.slice none 0 0) := by have hq := hp4; unfold zay at hq; rw [zac hq]; rfl
 have HB4 := zab hb4
 clear hb0 hb4 hp4 p9
 refine wp_loop_rounds 1 ?_
 rw [rounds_succ]
 go_wp2_with fail
 rw [rounds_succ]
 go_wp2_with fail
 go_ret
 exact ⟨g, gcap, rfl, ud HO4, ud HB4⟩
end Go.Proofs.YtpbimdkclnekeaaGreat
