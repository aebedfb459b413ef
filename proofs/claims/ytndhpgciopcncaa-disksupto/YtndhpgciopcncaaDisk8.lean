/- Walks: Crash of both disks. -/
import Derived.Test.YtndhpgciopcncaaDisk7
namespace Go.Proofs.Ytndhpgciopcncaa
open Go.RowKit
set_option linter.unusedVariables false

/-- what is left of the first k files. -/
def leftTo (keep : Int) (l : List FS) (k : Nat) : List FS := (l.take k).map (leftOf keep)
theorem leftTo_zero (keep : Int) (l : List FS) : leftTo keep l 0 = [] := by simp [leftTo]
theorem leftTo_succ {keep : Int} {l : List FS} {k : Nat} {f : FS} (h : l[k]? = some f) : leftTo keep l (k + 1) = leftTo keep l k ++ [leftOf keep f] := by
  simp [leftTo, take_succ_of h]
theorem leftTo_length (keep : Int) (l : List FS) (k : Nat) : (leftTo keep l k).length ≤ k := by
  have := List.length_take_le k l; simp [leftTo]; omega
theorem leftTo_all (keep : Int) (l : List FS) : leftTo keep l l.length = l.map (leftOf keep) := by simp [leftTo]

theorem size_cut (d : ByteArray) (n : Nat) : (d.extract 0 n).size = min n d.size := by simp
theorem cut_all (d : ByteArray) : d.extract 0 d.size = d := by
  apply ByteArray.ext; simp
theorem leftOf_neg {keep : Int} {f : FS} (h0 : f.safe ≤ f.data.size) (h1 : keep < 0) (h2 : keep < (f.data.size : Int) - f.safe) : leftOf keep f = ⟨f.name, f.data.extract 0 f.safe, f.safe⟩ := by
  simp only [leftOf, if_pos h1, if_pos h2, Nat.add_zero, size_cut]
  rw [Nat.min_eq_left h0]
theorem leftOf_mid {k : Nat} {f : FS} (h2 : (k : Int) < (f.data.size : Int) - f.safe) : leftOf k f = ⟨f.name, f.data.extract 0 (f.safe + k), min (f.safe + k) f.data.size⟩ := by
  have : ¬ (k : Int) < 0 := by omega
  simp only [leftOf, if_neg this, if_pos h2, Int.toNat_natCast, size_cut]
theorem leftOf_all {keep : Int} {f : FS} (h0 : f.safe ≤ f.data.size) (h2 : ¬ keep < (f.data.size : Int) - f.safe) : leftOf keep f = ⟨f.name, f.data, f.data.size⟩ := by
  have e : f.safe + (f.data.size - f.safe) = f.data.size := by omega
  simp only [leftOf, if_neg h2, e, cut_all]

set_option maxHeartbeats 4000000 in
theorem crash_any (B : Nat) (p : Nat) (S : DS) (fs : Value) (keep : Int) (w : World) (N : Nat) (hN : N ≤ 1099511627776) (hok : DOk S N) (hB : B ≤ w.heap.size) (h : DiskAt 58 64 B w p S fs) :
    Calls Try.prog 42 #[.pointer (some ⟨p, 0, none⟩), .int .i64 keep] w fun e w' => e = .returned (.pointer (some ⟨w.heap.size, 0, none⟩)) ∧ ∃ fs', DiskAt 58 64 B w' w.heap.size (crashed S keep) fs' ∧ Below w.heap.size w w' ∧ w.heap.size < w'.heap.size ∧ ∀ k, fs'.ownBlock = some k → w.heap.size ≤ k := by
  obtain ⟨hl1, hl2, hn, hall⟩ := hok
  have HNEW := hide (new_any w.heap.size w (Nat.le_refl _))
  have hp := h.lt
  obtain ⟨a, cap0, rfl⟩ := slice_of h.row
  go_enter Try.func42, Try.ntmps42
  go_wp2_with (go_at_call 11; refine (unhide HNEW).mono ?_; rintro e w1 ⟨rfl, h1, hb1, hz1⟩; have c0 := (h.later hb1).c0)
  go_loopw [7, 8, 15] (fun _ _ y wr => ∃ (k : Nat) (v : Value), k ≤ S.files.length ∧ y = .int .i64 k ∧ DiskAt 58 64 w.heap.size wr w.heap.size ⟨leftTo keep S.files k, -1, false⟩ v ∧ Below w.heap.size w wr) (fun _ _ y _ => S.files.length - (intOf y).toNat)
  case atStart => exact ⟨0, _, Nat.zero_le _, rfl, by rw [leftTo_zero]; exact h1, hb1⟩
  case round =>
    obtain ⟨k, v, hk, rfl, hd, hb⟩ := hrel
    have hkl := leftTo_length keep S.files k
    have h2 := h.later hb
    clear c0 h1 hb1 hz1
    by_cases hlt : k < S.files.length
    · obtain ⟨a5, cap5, rfl⟩ := owns_slice hd.row
      obtain ⟨f, hf⟩ := get_of_lt hlt
      obtain ⟨g, cap', hv', -⟩ := h2.files (by omega)
      injection hv' with hv1 hv2 hv3
      subst hv1
      obtain ⟨x0, x1, x2, xf⟩ := h2.at hf
      obtain ⟨hsa, hda⟩ := hall f (List.mem_of_getElem? hf)
      have HK := hide (leftTo_succ (keep := keep) hf)
      have hkn : (k : Int) < S.files.length := by omega
      have d0 := hd.c0
      have c0 := h2.c0
      have hpr := h2.lt
      have hzd := hd.lt
      clear hf hv2 hv3 xf
      by_cases hc : keep < (f.data.size : Int) - f.safe
      · by_cases hneg : keep < 0
        · have HL := hide (leftOf_neg hsa hneg hc)
          go_wp2_with fail
          have hBW : Below wr.heap.size wr (wr.alloc (.cells #[.string f.name, .string (f.data.extract 0 f.safe), .int .i64 (f.safe : Nat)] 64)) := (Below.refl _ _).alloc (Nat.le_refl _) _
          have hbk : (wr.alloc (.cells #[.string f.name, .string (f.data.extract 0 f.safe), .int .i64 (f.safe : Nat)] 64)).heap[wr.heap.size]? = some (.cells #[.string f.name, .string (f.data.extract 0 f.safe), .int .i64 (f.safe : Nat)] 64 (0, 0)) := heap_alloc_last _ _
          have hzW : (wr.alloc (.cells #[.string f.name, .string (f.data.extract 0 f.safe), .int .i64 (f.safe : Nat)] 64)).heap.size = wr.heap.size + 1 := size_first _ _
          generalize hWW : (wr.alloc (.cells #[.string f.name, .string (f.data.extract 0 f.safe), .int .i64 (f.safe : Nat)] 64)) = W at hBW hbk hzW ⊢
          have hdW := hd.later hBW
          have z0 := hdW.c0
          have z1 := hdW.free 0
          have b0 : W.cell? ⟨wr.heap.size, 0, none⟩ = some (.string f.name) := by rw [dcell hbk]; rfl
          have b1 : W.cell? ⟨wr.heap.size, 1, none⟩ = some (.string (f.data.extract 0 f.safe)) := by rw [dcell hbk]; rfl
          have b2 : W.cell? ⟨wr.heap.size, 2, none⟩ = some (.int .i64 (f.safe : Nat)) := by rw [dcell hbk]; rfl
          have HROW := hide hdW.row
          have hpw := hdW.lt
          have hsW := hb.size
          have za : ∀ o : Obj, (W.alloc o).cell? ⟨w.heap.size, 0, none⟩ = some (.slice a5 (leftTo keep S.files k).length cap5) := fun o => (((Below.refl W.heap.size W).alloc (Nat.le_refl _) o).cell (p := ⟨w.heap.size, 0, none⟩) hpw).trans z0
          have zb : ∀ o : Obj, (W.alloc o).cell? ⟨wr.heap.size, 0, none⟩ = some (.string f.name) := fun o => (((Below.refl W.heap.size W).alloc (Nat.le_refl _) o).cell (p := ⟨wr.heap.size, 0, none⟩) (show wr.heap.size < _ by omega)).trans b0
          clear hWW d0 x0 x1 x2
          go_region_law (refine step_push_file rfl (.tmp 46) (.tmp 48) rfl w.heap.size _ (leftTo keep S.files k) ⟨f.name, (f.data.extract 0 f.safe), f.safe⟩ (by simp [Act.eval]) (owns_drew ((unhide HROW).alloc _)) W.heap.size (by simp [Act.eval]) (heap_last_drew _ _) ?hll ?hbb ?_; (case hll => omega); (case hbb => (rw [size_drew]; omega)); intro g3 cap3 w5 hown hgrow0 hat hlt3; have hgrow := grown_drew hgrow0; clear hgrow0; have hk5 : Kept (foot w.heap.size (.slice a5 (leftTo keep S.files k).length cap5)) W w5 := Kept.grown ((Kept.refl _ _).alloc _) hgrow (fun k hk _ => .inr hk); have hp5 : w5.heap[w.heap.size]? = W.heap[w.heap.size]? := (hgrow.block w.heap.size (by rw [size_first]; omega) (fun e => hdW.apart (by decide) e.symm)).trans (Below.heap_alloc _ _ _ hpw); have d0 := (World.cell?_of_block (a := ⟨w.heap.size, 0, none⟩) hp5).trans z0; have d1 := (World.frozen?_of_block (a := ⟨w.heap.size, 0, none⟩) hp5).trans z1; have hb5 : Below w.heap.size w w5 := (hb.trans (hBW.mono hsW)).trans (((Below.refl _ _).alloc (by omega) _).grown hgrow (by rw [size_first]; omega) (fun k hk => (hdW.row.lt k hk).1)))
          all_goals
            go_wp2_with fail
            obtain ⟨hD, hK⟩ := hdW.setFiles (by decide) hk5 hp5 hown
            have hb6 := hb5.setCell (p := ⟨w.heap.size, 0, none⟩) (Nat.le_refl _) (.slice (some ⟨g3, 0, none⟩) ((leftTo keep S.files k).length + 1) cap3)
            rw [← unhide HL, ← unhide HK] at hD
            exact ⟨⟨k + 1, _, by omega, by go_num, hD, hb6⟩, by simp [intOf]; omega⟩
        · obtain ⟨m, rfl⟩ := Int.eq_ofNat_of_zero_le (show 0 ≤ keep by omega)
          have HL := hide (leftOf_mid hc)
          go_wp2_with fail
          have hBW : Below wr.heap.size wr (wr.alloc (.cells #[.string f.name, .string (f.data.extract 0 (f.safe + m)), .int .i64 (min (f.safe + m) f.data.size : Nat)] 64)) := (Below.refl _ _).alloc (Nat.le_refl _) _
          have hbk : (wr.alloc (.cells #[.string f.name, .string (f.data.extract 0 (f.safe + m)), .int .i64 (min (f.safe + m) f.data.size : Nat)] 64)).heap[wr.heap.size]? = some (.cells #[.string f.name, .string (f.data.extract 0 (f.safe + m)), .int .i64 (min (f.safe + m) f.data.size : Nat)] 64 (0, 0)) := heap_alloc_last _ _
          have hzW : (wr.alloc (.cells #[.string f.name, .string (f.data.extract 0 (f.safe + m)), .int .i64 (min (f.safe + m) f.data.size : Nat)] 64)).heap.size = wr.heap.size + 1 := size_first _ _
          generalize hWW : (wr.alloc (.cells #[.string f.name, .string (f.data.extract 0 (f.safe + m)), .int .i64 (min (f.safe + m) f.data.size : Nat)] 64)) = W at hBW hbk hzW ⊢
          have hdW := hd.later hBW
          have z0 := hdW.c0
          have z1 := hdW.free 0
          have b0 : W.cell? ⟨wr.heap.size, 0, none⟩ = some (.string f.name) := by rw [dcell hbk]; rfl
          have b1 : W.cell? ⟨wr.heap.size, 1, none⟩ = some (.string (f.data.extract 0 (f.safe + m))) := by rw [dcell hbk]; rfl
          have b2 : W.cell? ⟨wr.heap.size, 2, none⟩ = some (.int .i64 (min (f.safe + m) f.data.size : Nat)) := by rw [dcell hbk]; rfl
          have HROW := hide hdW.row
          have hpw := hdW.lt
          have hsW := hb.size
          have za : ∀ o : Obj, (W.alloc o).cell? ⟨w.heap.size, 0, none⟩ = some (.slice a5 (leftTo m S.files k).length cap5) := fun o => (((Below.refl W.heap.size W).alloc (Nat.le_refl _) o).cell (p := ⟨w.heap.size, 0, none⟩) hpw).trans z0
          have zb : ∀ o : Obj, (W.alloc o).cell? ⟨wr.heap.size, 0, none⟩ = some (.string f.name) := fun o => (((Below.refl W.heap.size W).alloc (Nat.le_refl _) o).cell (p := ⟨wr.heap.size, 0, none⟩) (show wr.heap.size < _ by omega)).trans b0
          clear hWW d0 x0 x1 x2
          go_region_law (refine step_push_file rfl (.tmp 46) (.tmp 48) rfl w.heap.size _ (leftTo m S.files k) ⟨f.name, (f.data.extract 0 (f.safe + m)), min (f.safe + m) f.data.size⟩ (by simp [Act.eval]) (owns_drew ((unhide HROW).alloc _)) W.heap.size (by simp [Act.eval]) (heap_last_drew _ _) ?hll ?hbb ?_; (case hll => omega); (case hbb => (rw [size_drew]; omega)); intro g3 cap3 w5 hown hgrow0 hat hlt3; have hgrow := grown_drew hgrow0; clear hgrow0; have hk5 : Kept (foot w.heap.size (.slice a5 (leftTo m S.files k).length cap5)) W w5 := Kept.grown ((Kept.refl _ _).alloc _) hgrow (fun k hk _ => .inr hk); have hp5 : w5.heap[w.heap.size]? = W.heap[w.heap.size]? := (hgrow.block w.heap.size (by rw [size_first]; omega) (fun e => hdW.apart (by decide) e.symm)).trans (Below.heap_alloc _ _ _ hpw); have d0 := (World.cell?_of_block (a := ⟨w.heap.size, 0, none⟩) hp5).trans z0; have d1 := (World.frozen?_of_block (a := ⟨w.heap.size, 0, none⟩) hp5).trans z1; have hb5 : Below w.heap.size w w5 := (hb.trans (hBW.mono hsW)).trans (((Below.refl _ _).alloc (by omega) _).grown hgrow (by rw [size_first]; omega) (fun k hk => (hdW.row.lt k hk).1)))
          all_goals
            go_wp2_with fail
            obtain ⟨hD, hK⟩ := hdW.setFiles (by decide) hk5 hp5 hown
            have hb6 := hb5.setCell (p := ⟨w.heap.size, 0, none⟩) (Nat.le_refl _) (.slice (some ⟨g3, 0, none⟩) ((leftTo m S.files k).length + 1) cap3)
            rw [← unhide HL, ← unhide HK] at hD
            exact ⟨⟨k + 1, _, by omega, by go_num, hD, hb6⟩, by simp [intOf]; omega⟩
      · have HL := hide (leftOf_all hsa hc)
        go_wp2_with fail
        have hBW : Below wr.heap.size wr (wr.alloc (.cells #[.string f.name, .string f.data, .int .i64 (f.data.size : Nat)] 64)) := (Below.refl _ _).alloc (Nat.le_refl _) _
        have hbk : (wr.alloc (.cells #[.string f.name, .string f.data, .int .i64 (f.data.size : Nat)] 64)).heap[wr.heap.size]? = some (.cells #[.string f.name, .string f.data, .int .i64 (f.data.size : Nat)] 64 (0, 0)) := heap_alloc_last _ _
        have hzW : (wr.alloc (.cells #[.string f.name, .string f.data, .int .i64 (f.data.size : Nat)] 64)).heap.size = wr.heap.size + 1 := size_first _ _
        generalize hWW : (wr.alloc (.cells #[.string f.name, .string f.data, .int .i64 (f.data.size : Nat)] 64)) = W at hBW hbk hzW ⊢
        have hdW := hd.later hBW
        have z0 := hdW.c0
        have z1 := hdW.free 0
        have b0 : W.cell? ⟨wr.heap.size, 0, none⟩ = some (.string f.name) := by rw [dcell hbk]; rfl
        have b1 : W.cell? ⟨wr.heap.size, 1, none⟩ = some (.string f.data) := by rw [dcell hbk]; rfl
        have b2 : W.cell? ⟨wr.heap.size, 2, none⟩ = some (.int .i64 (f.data.size : Nat)) := by rw [dcell hbk]; rfl
        have HROW := hide hdW.row
        have hpw := hdW.lt
        have hsW := hb.size
        have za : ∀ o : Obj, (W.alloc o).cell? ⟨w.heap.size, 0, none⟩ = some (.slice a5 (leftTo keep S.files k).length cap5) := fun o => (((Below.refl W.heap.size W).alloc (Nat.le_refl _) o).cell (p := ⟨w.heap.size, 0, none⟩) hpw).trans z0
        have zb : ∀ o : Obj, (W.alloc o).cell? ⟨wr.heap.size, 0, none⟩ = some (.string f.name) := fun o => (((Below.refl W.heap.size W).alloc (Nat.le_refl _) o).cell (p := ⟨wr.heap.size, 0, none⟩) (show wr.heap.size < _ by omega)).trans b0
        clear hWW d0 x0 x1 x2
        go_region_law (refine step_push_file rfl (.tmp 46) (.tmp 48) rfl w.heap.size _ (leftTo keep S.files k) ⟨f.name, f.data, f.data.size⟩ (by simp [Act.eval]) (owns_drew ((unhide HROW).alloc _)) W.heap.size (by simp [Act.eval]) (heap_last_drew _ _) ?hll ?hbb ?_; (case hll => omega); (case hbb => (rw [size_drew]; omega)); intro g3 cap3 w5 hown hgrow0 hat hlt3; have hgrow := grown_drew hgrow0; clear hgrow0; have hk5 : Kept (foot w.heap.size (.slice a5 (leftTo keep S.files k).length cap5)) W w5 := Kept.grown ((Kept.refl _ _).alloc _) hgrow (fun k hk _ => .inr hk); have hp5 : w5.heap[w.heap.size]? = W.heap[w.heap.size]? := (hgrow.block w.heap.size (by rw [size_first]; omega) (fun e => hdW.apart (by decide) e.symm)).trans (Below.heap_alloc _ _ _ hpw); have d0 := (World.cell?_of_block (a := ⟨w.heap.size, 0, none⟩) hp5).trans z0; have d1 := (World.frozen?_of_block (a := ⟨w.heap.size, 0, none⟩) hp5).trans z1; have hb5 : Below w.heap.size w w5 := (hb.trans (hBW.mono hsW)).trans (((Below.refl _ _).alloc (by omega) _).grown hgrow (by rw [size_first]; omega) (fun k hk => (hdW.row.lt k hk).1)))
        all_goals
          go_wp2_with fail
          obtain ⟨hD, hK⟩ := hdW.setFiles (by decide) hk5 hp5 hown
          have hb6 := hb5.setCell (p := ⟨w.heap.size, 0, none⟩) (Nat.le_refl _) (.slice (some ⟨g3, 0, none⟩) ((leftTo keep S.files k).length + 1) cap3)
          rw [← unhide HL, ← unhide HK] at hD
          exact ⟨⟨k + 1, _, by omega, by go_num, hD, hb6⟩, by simp [intOf]; omega⟩
    · have e : k = S.files.length := by omega
      rw [e, leftTo_all] at hd
      have c0 := h2.c0
      clear e
      go_wp2_with fail
      go_ret
      exact ⟨rfl, v, ⟨hd.head, hB, owns_base hd.row hB⟩, hb, hd.lt, fun k hk => (hd.row.lt k hk).1⟩

set_option maxHeartbeats 4000000 in
theorem rcrash_any (B : Nat) (p : Nat) (S : DS) (fs : Value) (keep : Int) (w : World) (N : Nat) (hN : N ≤ 1099511627776) (hok : DOk S N) (hB : B ≤ w.heap.size) (h : DiskAt 61 66 B w p S fs) :
    Calls Try.prog 43 #[.pointer (some ⟨p, 0, none⟩), .int .i64 keep] w fun e w' => e = .returned (.pointer (some ⟨w.heap.size, 0, none⟩)) ∧ ∃ fs', DiskAt 61 66 B w' w.heap.size (crashed S keep) fs' ∧ Below w.heap.size w w' ∧ w.heap.size < w'.heap.size ∧ ∀ k, fs'.ownBlock = some k → w.heap.size ≤ k := by
  obtain ⟨hl1, hl2, hn, hall⟩ := hok
  have HNEW := hide (rnew_any w.heap.size w (Nat.le_refl _))
  have hp := h.lt
  obtain ⟨a, cap0, rfl⟩ := slice_of h.row
  go_enter Try.func43, Try.ntmps43
  go_wp2_with (go_at_call 12; refine (unhide HNEW).mono ?_; rintro e w1 ⟨rfl, h1, hb1, hz1⟩; have c0 := (h.later hb1).c0)
  go_loopw [6, 7, 8] (fun y _ _ wr => ∃ (k : Nat) (v : Value), k ≤ S.files.length ∧ y = .int .i64 k ∧ DiskAt 61 66 w.heap.size wr w.heap.size ⟨leftTo keep S.files k, -1, false⟩ v ∧ Below w.heap.size w wr) (fun y _ _ _ => S.files.length - (intOf y).toNat)
  case atStart => exact ⟨0, _, Nat.zero_le _, rfl, by rw [leftTo_zero]; exact h1, hb1⟩
  case round =>
    obtain ⟨k, v, hk, rfl, hd, hb⟩ := hrel
    have hkl := leftTo_length keep S.files k
    have h2 := h.later hb
    clear c0 h1 hb1 hz1
    by_cases hlt : k < S.files.length
    · obtain ⟨a5, cap5, rfl⟩ := owns_slice hd.row
      obtain ⟨f, hf⟩ := get_of_lt hlt
      obtain ⟨g, cap', hv', -⟩ := h2.files (by omega)
      injection hv' with hv1 hv2 hv3
      subst hv1
      obtain ⟨x0, x1, x2, xf⟩ := h2.at hf
      obtain ⟨hsa, hda⟩ := hall f (List.mem_of_getElem? hf)
      have HK := hide (leftTo_succ (keep := keep) hf)
      have hkn : (k : Int) < S.files.length := by omega
      have d0 := hd.c0
      have c0 := h2.c0
      have hpr := h2.lt
      have hzd := hd.lt
      clear hf hv2 hv3 xf
      by_cases hc : keep < (f.data.size : Int) - f.safe
      · by_cases hneg : keep < 0
        · have HL := hide (leftOf_neg hsa hneg hc)
          go_wp2_with fail
          have hBW : Below wr.heap.size wr (wr.alloc (.cells #[.string f.name, .string (f.data.extract 0 f.safe), .int .i64 (f.safe : Nat)] 66)) := (Below.refl _ _).alloc (Nat.le_refl _) _
          have hbk : (wr.alloc (.cells #[.string f.name, .string (f.data.extract 0 f.safe), .int .i64 (f.safe : Nat)] 66)).heap[wr.heap.size]? = some (.cells #[.string f.name, .string (f.data.extract 0 f.safe), .int .i64 (f.safe : Nat)] 66 (0, 0)) := heap_alloc_last _ _
          have hzW : (wr.alloc (.cells #[.string f.name, .string (f.data.extract 0 f.safe), .int .i64 (f.safe : Nat)] 66)).heap.size = wr.heap.size + 1 := size_first _ _
          generalize hWW : (wr.alloc (.cells #[.string f.name, .string (f.data.extract 0 f.safe), .int .i64 (f.safe : Nat)] 66)) = W at hBW hbk hzW ⊢
          have hdW := hd.later hBW
          have z0 := hdW.c0
          have z1 := hdW.free 0
          have b0 : W.cell? ⟨wr.heap.size, 0, none⟩ = some (.string f.name) := by rw [dcell hbk]; rfl
          have b1 : W.cell? ⟨wr.heap.size, 1, none⟩ = some (.string (f.data.extract 0 f.safe)) := by rw [dcell hbk]; rfl
          have b2 : W.cell? ⟨wr.heap.size, 2, none⟩ = some (.int .i64 (f.safe : Nat)) := by rw [dcell hbk]; rfl
          have HROW := hide hdW.row
          have hpw := hdW.lt
          have hsW := hb.size
          have za : ∀ o : Obj, (W.alloc o).cell? ⟨w.heap.size, 0, none⟩ = some (.slice a5 (leftTo keep S.files k).length cap5) := fun o => (((Below.refl W.heap.size W).alloc (Nat.le_refl _) o).cell (p := ⟨w.heap.size, 0, none⟩) hpw).trans z0
          have zb : ∀ o : Obj, (W.alloc o).cell? ⟨wr.heap.size, 0, none⟩ = some (.string f.name) := fun o => (((Below.refl W.heap.size W).alloc (Nat.le_refl _) o).cell (p := ⟨wr.heap.size, 0, none⟩) (show wr.heap.size < _ by omega)).trans b0
          clear hWW d0 x0 x1 x2
          go_region_law (refine step_push_dfile rfl (.tmp 54) (.tmp 56) rfl w.heap.size _ (leftTo keep S.files k) ⟨f.name, (f.data.extract 0 f.safe), f.safe⟩ (by simp [Act.eval]) (owns_drew ((unhide HROW).alloc _)) W.heap.size (by simp [Act.eval]) (heap_last_drew _ _) ?hll ?hbb ?_; (case hll => omega); (case hbb => (rw [size_drew]; omega)); intro g3 cap3 w5 hown hgrow0 hat hlt3; have hgrow := grown_drew hgrow0; clear hgrow0; have hk5 : Kept (foot w.heap.size (.slice a5 (leftTo keep S.files k).length cap5)) W w5 := Kept.grown ((Kept.refl _ _).alloc _) hgrow (fun k hk _ => .inr hk); have hp5 : w5.heap[w.heap.size]? = W.heap[w.heap.size]? := (hgrow.block w.heap.size (by rw [size_first]; omega) (fun e => hdW.apart (by decide) e.symm)).trans (Below.heap_alloc _ _ _ hpw); have d0 := (World.cell?_of_block (a := ⟨w.heap.size, 0, none⟩) hp5).trans z0; have d1 := (World.frozen?_of_block (a := ⟨w.heap.size, 0, none⟩) hp5).trans z1; have hb5 : Below w.heap.size w w5 := (hb.trans (hBW.mono hsW)).trans (((Below.refl _ _).alloc (by omega) _).grown hgrow (by rw [size_first]; omega) (fun k hk => (hdW.row.lt k hk).1)))
          all_goals
            go_wp2_with fail
            obtain ⟨hD, hK⟩ := hdW.setFiles (by decide) hk5 hp5 hown
            have hb6 := hb5.setCell (p := ⟨w.heap.size, 0, none⟩) (Nat.le_refl _) (.slice (some ⟨g3, 0, none⟩) ((leftTo keep S.files k).length + 1) cap3)
            rw [← unhide HL, ← unhide HK] at hD
            exact ⟨⟨k + 1, _, by omega, by go_num, hD, hb6⟩, by simp [intOf]; omega⟩
        · obtain ⟨m, rfl⟩ := Int.eq_ofNat_of_zero_le (show 0 ≤ keep by omega)
          have HL := hide (leftOf_mid hc)
          go_wp2_with fail
          have hBW : Below wr.heap.size wr (wr.alloc (.cells #[.string f.name, .string (f.data.extract 0 (f.safe + m)), .int .i64 (min (f.safe + m) f.data.size : Nat)] 66)) := (Below.refl _ _).alloc (Nat.le_refl _) _
          have hbk : (wr.alloc (.cells #[.string f.name, .string (f.data.extract 0 (f.safe + m)), .int .i64 (min (f.safe + m) f.data.size : Nat)] 66)).heap[wr.heap.size]? = some (.cells #[.string f.name, .string (f.data.extract 0 (f.safe + m)), .int .i64 (min (f.safe + m) f.data.size : Nat)] 66 (0, 0)) := heap_alloc_last _ _
          have hzW : (wr.alloc (.cells #[.string f.name, .string (f.data.extract 0 (f.safe + m)), .int .i64 (min (f.safe + m) f.data.size : Nat)] 66)).heap.size = wr.heap.size + 1 := size_first _ _
          generalize hWW : (wr.alloc (.cells #[.string f.name, .string (f.data.extract 0 (f.safe + m)), .int .i64 (min (f.safe + m) f.data.size : Nat)] 66)) = W at hBW hbk hzW ⊢
          have hdW := hd.later hBW
          have z0 := hdW.c0
          have z1 := hdW.free 0
          have b0 : W.cell? ⟨wr.heap.size, 0, none⟩ = some (.string f.name) := by rw [dcell hbk]; rfl
          have b1 : W.cell? ⟨wr.heap.size, 1, none⟩ = some (.string (f.data.extract 0 (f.safe + m))) := by rw [dcell hbk]; rfl
          have b2 : W.cell? ⟨wr.heap.size, 2, none⟩ = some (.int .i64 (min (f.safe + m) f.data.size : Nat)) := by rw [dcell hbk]; rfl
          have HROW := hide hdW.row
          have hpw := hdW.lt
          have hsW := hb.size
          have za : ∀ o : Obj, (W.alloc o).cell? ⟨w.heap.size, 0, none⟩ = some (.slice a5 (leftTo m S.files k).length cap5) := fun o => (((Below.refl W.heap.size W).alloc (Nat.le_refl _) o).cell (p := ⟨w.heap.size, 0, none⟩) hpw).trans z0
          have zb : ∀ o : Obj, (W.alloc o).cell? ⟨wr.heap.size, 0, none⟩ = some (.string f.name) := fun o => (((Below.refl W.heap.size W).alloc (Nat.le_refl _) o).cell (p := ⟨wr.heap.size, 0, none⟩) (show wr.heap.size < _ by omega)).trans b0
          clear hWW d0 x0 x1 x2
          go_region_law (refine step_push_dfile rfl (.tmp 54) (.tmp 56) rfl w.heap.size _ (leftTo m S.files k) ⟨f.name, (f.data.extract 0 (f.safe + m)), min (f.safe + m) f.data.size⟩ (by simp [Act.eval]) (owns_drew ((unhide HROW).alloc _)) W.heap.size (by simp [Act.eval]) (heap_last_drew _ _) ?hll ?hbb ?_; (case hll => omega); (case hbb => (rw [size_drew]; omega)); intro g3 cap3 w5 hown hgrow0 hat hlt3; have hgrow := grown_drew hgrow0; clear hgrow0; have hk5 : Kept (foot w.heap.size (.slice a5 (leftTo m S.files k).length cap5)) W w5 := Kept.grown ((Kept.refl _ _).alloc _) hgrow (fun k hk _ => .inr hk); have hp5 : w5.heap[w.heap.size]? = W.heap[w.heap.size]? := (hgrow.block w.heap.size (by rw [size_first]; omega) (fun e => hdW.apart (by decide) e.symm)).trans (Below.heap_alloc _ _ _ hpw); have d0 := (World.cell?_of_block (a := ⟨w.heap.size, 0, none⟩) hp5).trans z0; have d1 := (World.frozen?_of_block (a := ⟨w.heap.size, 0, none⟩) hp5).trans z1; have hb5 : Below w.heap.size w w5 := (hb.trans (hBW.mono hsW)).trans (((Below.refl _ _).alloc (by omega) _).grown hgrow (by rw [size_first]; omega) (fun k hk => (hdW.row.lt k hk).1)))
          all_goals
            go_wp2_with fail
            obtain ⟨hD, hK⟩ := hdW.setFiles (by decide) hk5 hp5 hown
            have hb6 := hb5.setCell (p := ⟨w.heap.size, 0, none⟩) (Nat.le_refl _) (.slice (some ⟨g3, 0, none⟩) ((leftTo m S.files k).length + 1) cap3)
            rw [← unhide HL, ← unhide HK] at hD
            exact ⟨⟨k + 1, _, by omega, by go_num, hD, hb6⟩, by simp [intOf]; omega⟩
      · have HL := hide (leftOf_all hsa hc)
        go_wp2_with fail
        have hBW : Below wr.heap.size wr (wr.alloc (.cells #[.string f.name, .string f.data, .int .i64 (f.data.size : Nat)] 66)) := (Below.refl _ _).alloc (Nat.le_refl _) _
        have hbk : (wr.alloc (.cells #[.string f.name, .string f.data, .int .i64 (f.data.size : Nat)] 66)).heap[wr.heap.size]? = some (.cells #[.string f.name, .string f.data, .int .i64 (f.data.size : Nat)] 66 (0, 0)) := heap_alloc_last _ _
        have hzW : (wr.alloc (.cells #[.string f.name, .string f.data, .int .i64 (f.data.size : Nat)] 66)).heap.size = wr.heap.size + 1 := size_first _ _
        generalize hWW : (wr.alloc (.cells #[.string f.name, .string f.data, .int .i64 (f.data.size : Nat)] 66)) = W at hBW hbk hzW ⊢
        have hdW := hd.later hBW
        have z0 := hdW.c0
        have z1 := hdW.free 0
        have b0 : W.cell? ⟨wr.heap.size, 0, none⟩ = some (.string f.name) := by rw [dcell hbk]; rfl
        have b1 : W.cell? ⟨wr.heap.size, 1, none⟩ = some (.string f.data) := by rw [dcell hbk]; rfl
        have b2 : W.cell? ⟨wr.heap.size, 2, none⟩ = some (.int .i64 (f.data.size : Nat)) := by rw [dcell hbk]; rfl
        have HROW := hide hdW.row
        have hpw := hdW.lt
        have hsW := hb.size
        have za : ∀ o : Obj, (W.alloc o).cell? ⟨w.heap.size, 0, none⟩ = some (.slice a5 (leftTo keep S.files k).length cap5) := fun o => (((Below.refl W.heap.size W).alloc (Nat.le_refl _) o).cell (p := ⟨w.heap.size, 0, none⟩) hpw).trans z0
        have zb : ∀ o : Obj, (W.alloc o).cell? ⟨wr.heap.size, 0, none⟩ = some (.string f.name) := fun o => (((Below.refl W.heap.size W).alloc (Nat.le_refl _) o).cell (p := ⟨wr.heap.size, 0, none⟩) (show wr.heap.size < _ by omega)).trans b0
        clear hWW d0 x0 x1 x2
        go_region_law (refine step_push_dfile rfl (.tmp 54) (.tmp 56) rfl w.heap.size _ (leftTo keep S.files k) ⟨f.name, f.data, f.data.size⟩ (by simp [Act.eval]) (owns_drew ((unhide HROW).alloc _)) W.heap.size (by simp [Act.eval]) (heap_last_drew _ _) ?hll ?hbb ?_; (case hll => omega); (case hbb => (rw [size_drew]; omega)); intro g3 cap3 w5 hown hgrow0 hat hlt3; have hgrow := grown_drew hgrow0; clear hgrow0; have hk5 : Kept (foot w.heap.size (.slice a5 (leftTo keep S.files k).length cap5)) W w5 := Kept.grown ((Kept.refl _ _).alloc _) hgrow (fun k hk _ => .inr hk); have hp5 : w5.heap[w.heap.size]? = W.heap[w.heap.size]? := (hgrow.block w.heap.size (by rw [size_first]; omega) (fun e => hdW.apart (by decide) e.symm)).trans (Below.heap_alloc _ _ _ hpw); have d0 := (World.cell?_of_block (a := ⟨w.heap.size, 0, none⟩) hp5).trans z0; have d1 := (World.frozen?_of_block (a := ⟨w.heap.size, 0, none⟩) hp5).trans z1; have hb5 : Below w.heap.size w w5 := (hb.trans (hBW.mono hsW)).trans (((Below.refl _ _).alloc (by omega) _).grown hgrow (by rw [size_first]; omega) (fun k hk => (hdW.row.lt k hk).1)))
        all_goals
          go_wp2_with fail
          obtain ⟨hD, hK⟩ := hdW.setFiles (by decide) hk5 hp5 hown
          have hb6 := hb5.setCell (p := ⟨w.heap.size, 0, none⟩) (Nat.le_refl _) (.slice (some ⟨g3, 0, none⟩) ((leftTo keep S.files k).length + 1) cap3)
          rw [← unhide HL, ← unhide HK] at hD
          exact ⟨⟨k + 1, _, by omega, by go_num, hD, hb6⟩, by simp [intOf]; omega⟩
    · have e : k = S.files.length := by omega
      rw [e, leftTo_all] at hd
      have c0 := h2.c0
      clear e
      go_wp2_with fail
      go_ret
      exact ⟨rfl, v, ⟨hd.head, hB, owns_base hd.row hB⟩, hb, hd.lt, fun k hk => (hd.row.lt k hk).1⟩

end Go.Proofs.Ytndhpgciopcncaa
