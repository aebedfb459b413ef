/- Walks: the document's files without a name, its Remove; Rename of both. -/
import Derived.Test.YtndhpgciopcncaaDisk4
import Derived.Deep.RegionLaw
namespace Go.Proofs.Ytndhpgciopcncaa
open Go.RowKit
set_option linter.unusedVariables false

theorem step_push_file {w : World} {ops : Array Oper} {o : Oper} {a : Act} {K : Act → World → Prop} {Q : Exit → Act → World → Prop} {E : Prop} (hgd : o.guard = none) (s x : Operand)
    (ho : o.op = .call { callee := .builtin .append, args := #[s, x], argTypes := #[56, 56] }) (base : Nat) (v : Value) (l : List FS) (f : FS) (hs : a.eval s = v) (hown : w.ownsRow base 64 3 v l.length (fileCells l))
    (B1 : Nat) (hx : a.eval x = .slice (some ⟨B1, 0, none⟩) 1 1) (hB1 : w.heap[B1]? = some (.cells #[.string f.name, .string f.data, .int .i64 f.safe] 64 (0, 0))) (hl : l.length ≤ 1099511627776) (hbase : base ≤ w.heap.size)
    (h : ∀ g cap w', w'.ownsRow base 64 3 (.slice (some ⟨g, 0, none⟩) (l.length + 1) cap) (l ++ [f]).length (fileCells (l ++ [f])) → w.grownBy w' v.ownBlock → (v.ownBlock = some g ∨ g = w.heap.size) → g < w'.heap.size → K (a.put o.dst (.slice (some ⟨g, 0, none⟩) (l.length + 1) cap)) w') :
    if Region.wanted o (yielded ops a.tmps) = true then Oper.wp Try.prog o a w K Q else E := by
  have hw : Region.wanted o (yielded ops a.tmps) = true := by simp [Region.wanted, hgd]
  rw [if_pos hw]
  have hinfo := Try.infoFile
  cases hq : Try.prog.info? 64 with
  | none => simp [hq] at hinfo
  | some i =>
    simp only [hq, Option.map_some, Option.some.injEq, Prod.mk.injEq] at hinfo
    obtain ⟨hz, hsize, hby⟩ := hinfo
    obtain ⟨g, cap, w', hr, h2, _, h4, h5, h6⟩ := run_append_keep (P := Try.prog) w 56 o.type base 64 i _ 3 40 Try.underlying56 hq hz hsize hby rfl (by decide) v l.length (fileCells l) hown ⟨B1, 0, none⟩ 1 1 [.string f.name, .string f.data, .int .i64 f.safe] rfl
      (World.news_of_block (cs := #[.string f.name, .string f.data, .int .i64 f.safe]) hB1) (by intro u hu; simp at hu; rcases hu with rfl | rfl | rfl <;> rfl) (by decide) (by simp only [maxLen]; omega) (by omega) hbase
    unfold Oper.wp
    simp [execOp, ho, resolve, invoke, builtin, hs, hx, hr, Result.andThen]
    exact h g cap w' (pushed_row rfl h2) h4 h5 h6

theorem step_push_dfile {w : World} {ops : Array Oper} {o : Oper} {a : Act} {K : Act → World → Prop} {Q : Exit → Act → World → Prop} {E : Prop} (hgd : o.guard = none) (s x : Operand)
    (ho : o.op = .call { callee := .builtin .append, args := #[s, x], argTypes := #[59, 59] }) (base : Nat) (v : Value) (l : List FS) (f : FS) (hs : a.eval s = v) (hown : w.ownsRow base 66 3 v l.length (fileCells l))
    (B1 : Nat) (hx : a.eval x = .slice (some ⟨B1, 0, none⟩) 1 1) (hB1 : w.heap[B1]? = some (.cells #[.string f.name, .string f.data, .int .i64 f.safe] 66 (0, 0))) (hl : l.length ≤ 1099511627776) (hbase : base ≤ w.heap.size)
    (h : ∀ g cap w', w'.ownsRow base 66 3 (.slice (some ⟨g, 0, none⟩) (l.length + 1) cap) (l ++ [f]).length (fileCells (l ++ [f])) → w.grownBy w' v.ownBlock → (v.ownBlock = some g ∨ g = w.heap.size) → g < w'.heap.size → K (a.put o.dst (.slice (some ⟨g, 0, none⟩) (l.length + 1) cap)) w') :
    if Region.wanted o (yielded ops a.tmps) = true then Oper.wp Try.prog o a w K Q else E := by
  have hw : Region.wanted o (yielded ops a.tmps) = true := by simp [Region.wanted, hgd]
  rw [if_pos hw]
  have hinfo := Try.infoDFile
  cases hq : Try.prog.info? 66 with
  | none => simp [hq] at hinfo
  | some i =>
    simp only [hq, Option.map_some, Option.some.injEq, Prod.mk.injEq] at hinfo
    obtain ⟨hz, hsize, hby⟩ := hinfo
    obtain ⟨g, cap, w', hr, h2, _, h4, h5, h6⟩ := run_append_keep (P := Try.prog) w 59 o.type base 66 i _ 3 40 Try.underlying59 hq hz hsize hby rfl (by decide) v l.length (fileCells l) hown ⟨B1, 0, none⟩ 1 1 [.string f.name, .string f.data, .int .i64 f.safe] rfl
      (World.news_of_block (cs := #[.string f.name, .string f.data, .int .i64 f.safe]) hB1) (by intro u hu; simp at hu; rcases hu with rfl | rfl | rfl <;> rfl) (by decide) (by simp only [maxLen]; omega) (by omega) hbase
    unfold Oper.wp
    simp [execOp, ho, resolve, invoke, builtin, hs, hx, hr, Result.andThen]
    exact h g cap w' (pushed_row rfl h2) h4 h5 h6


set_option maxHeartbeats 1000000 in
theorem without_any (B : Nat) (p : Nat) (S : DS) (fs : Value) (nm : ByteArray) (w : World) (N : Nat) (hN : N ≤ 1099511627776) (hn : S.files.length ≤ N) (h : DiskAt 61 66 B w p S fs) :
    Calls Try.prog 31 #[.pointer (some ⟨p, 0, none⟩), .string nm] w fun e w' => ∃ v, e = .returned v ∧ w'.ownsRow w.heap.size 66 3 v (without S.files nm).length (fileCells (without S.files nm)) ∧ Below w.heap.size w w' := by
  obtain ⟨a, cap0, rfl⟩ := slice_of h.row
  have c0 := h.c0
  go_enter Try.func31, Try.ntmps31
  go_wp2
  go_loopw [5, 6] (fun v y wr => ∃ (k : Nat), k ≤ S.files.length ∧ y = .int .i64 k ∧ wr.ownsRow w.heap.size 66 3 v (keptOf (fun f => !eqS f.name nm) S.files k).length (fileCells (keptOf (fun f => !eqS f.name nm) S.files k)) ∧ Below w.heap.size w wr) (fun _ y _ => S.files.length - (intOf y).toNat)
  case atStart => exact ⟨0, Nat.zero_le _, rfl, by rw [keptOf_zero]; exact owns_nil _ _ _ _, Below.refl _ _⟩
  case round =>
    obtain ⟨k, hk, rfl, hv, hb⟩ := hrel
    have hkl := keptOf_length (fun f => !eqS f.name nm) S.files k
    have h2 := h.later hb
    have d0 := h2.c0
    have hbs := hb.size
    by_cases hlt : k < S.files.length
    · obtain ⟨f, hf⟩ := get_of_lt hlt
      obtain ⟨g, cap', hv', -⟩ := h2.files (by omega)
      injection hv' with hv1 hv2 hv3
      subst hv1
      obtain ⟨x0, x1, x2, xf⟩ := h2.at hf
      have HF := hide hf
      have hkn : (k : Int) < S.files.length := by omega
      clear hf hv2 hv3
      cases he : eqS f.name nm
      · have he' : (f.name.toList == nm.toList) = false := he
        have HK := hide (keptOf_yes (p := fun f => !eqS f.name nm) (unhide HF) (by simp [he]))
        clear he
        go_wp2_with (first
          | (at_builtin; refine push_dfile rfl _ _ rfl w.heap.size _ (keptOf (fun f => !eqS f.name nm) S.files k) f rfl (hv.alloc _) wr.heap.size rfl (heap_alloc_last _ _) ?hll ?hbb ?_; (case hll => omega); (case hbb => (rw [size_first]; omega)); intro g2 cap2 w3 hown hold hgrow hat hlt3)
          | fail)
        have hb3 : Below w.heap.size w w3 := (hb.alloc hbs _).grown hgrow (by simp; omega) (fun k hk => (hv.lt k hk).1)
        exact ⟨⟨k + 1, by omega, by go_num, by rw [unhide HK]; exact hown, hb3⟩, by simp [intOf]; omega⟩
      · have he' : (f.name.toList == nm.toList) = true := he
        have HK := hide (keptOf_no (p := fun f => !eqS f.name nm) (unhide HF) (by simp [he]))
        clear he
        go_wp2
        go_roundw
        case rel => exact ⟨k + 1, by omega, by go_num, by rw [unhide HK]; exact hv, hb⟩
        case measure => simp [intOf]; omega
    · have e : k = S.files.length := by omega
      rw [e, keptOf_all] at hv
      obtain ⟨a5, cap5, rfl⟩ := owns_slice hv
      clear e
      go_wp2
      go_ret
      exact ⟨_, rfl, hv, hb⟩

set_option maxHeartbeats 1000000 in
theorem rremove_go (B : Nat) (p : Nat) (S : DS) (fs : Value) (nm : ByteArray) (w : World) (N : Nat) (hN : N ≤ 1099511627776) (hok : DOk S N) (hB : B ≤ w.heap.size) (hs : stoppedB S = false) (h : DiskAt 61 66 B w p S fs) :
    Calls Try.prog 21 #[.pointer (some ⟨p, 0, none⟩), .string nm] w fun e w' => e = .returned (.bool true) ∧ ∃ fs', DiskAt 61 66 B w' p (removed (stepped S) nm) fs' ∧ Kept (foot p fs) w w' ∧ ∀ k, fs'.ownBlock = some k → fs.ownBlock = some k ∨ w.heap.size ≤ k := by
  obtain ⟨hl1, hl2, hn, hall⟩ := hok
  have HST := hide (rstep_any B p S fs w ⟨hl1, hl2⟩ h)
  rw [hs] at HST
  have hlen : (stepped S).files.length ≤ N := by rw [stepped_files]; exact hn
  clear hs hall h
  go_enter Try.func21, Try.ntmps21
  go_wp2_with (first
    | (go_at_call 29; refine (unhide HST).mono ?_; rintro e w1 ⟨rfl, h1, hk1⟩)
    | (go_at_call 31; refine (without_any B p (stepped S) _ nm _ N hN hlen h1).mono ?_; rintro e w2 ⟨v, rfl, hv, hb⟩; obtain ⟨a5, cap5, rfl⟩ := owns_slice hv; have d0 := (h1.later hb).c0; have d1 := (h1.later hb).free 0))
  go_ret
  obtain ⟨hD, hK⟩ := h1.setFiles (by decide) (Kept.of_below hb) (hb.block p h1.lt) (owns_base hv (show B ≤ w1.heap.size by have := hk1.size; omega))
  exact ⟨rfl, _, hD, hk1.trans hK (fun _ _ hh => hh), fun k hk => .inr (by have := (hv.lt k hk).1; have := hk1.size; omega)⟩

set_option maxHeartbeats 1000000 in
theorem rremove_stopped (B : Nat) (p : Nat) (S : DS) (fs : Value) (nm : ByteArray) (w : World) (N : Nat) (hok : DOk S N) (hs : stoppedB S = true) (h : DiskAt 61 66 B w p S fs) :
    Calls Try.prog 21 #[.pointer (some ⟨p, 0, none⟩), .string nm] w fun e w' => e = .returned (.bool false) ∧ DiskAt 61 66 B w' p (stepped S) fs ∧ Kept (foot p fs) w w' := by
  obtain ⟨hl1, hl2, hn, hall⟩ := hok
  have HST := hide (rstep_any B p S fs w ⟨hl1, hl2⟩ h)
  rw [hs] at HST
  clear hs hall
  go_enter Try.func21, Try.ntmps21
  go_wp2_with (go_at_call 29; refine (unhide HST).mono ?_; rintro e w1 ⟨rfl, h1, hk1⟩)
  go_ret
  exact ⟨rfl, h1, hk1⟩

theorem rremove_any (B : Nat) (p : Nat) (S : DS) (fs : Value) (nm : ByteArray) (w : World) (N : Nat) (hN : N ≤ 1099511627776) (hok : DOk S N) (hB : B ≤ w.heap.size) (h : DiskAt 61 66 B w p S fs) :
    Calls Try.prog 21 #[.pointer (some ⟨p, 0, none⟩), .string nm] w fun e w' => e = .returned (.bool (!stoppedB S)) ∧ ∃ fs', DiskAt 61 66 B w' p (afterRemove S nm) fs' ∧ Kept (foot p fs) w w' ∧ ∀ k, fs'.ownBlock = some k → fs.ownBlock = some k ∨ w.heap.size ≤ k := by
  cases hs : stoppedB S
  · have e : afterRemove S nm = removed (stepped S) nm := by simp [afterRemove, hs]
    rw [e]
    exact rremove_go B p S fs nm w N hN hok hB hs h
  · have e : afterRemove S nm = stepped S := by simp [afterRemove, hs]
    rw [e]
    exact (rremove_stopped B p S fs nm w N hok hs h).mono fun e w' ⟨h1, h2, h3⟩ => ⟨h1, fs, h2, h3, fun k hk => .inl hk⟩
end Go.Proofs.Ytndhpgciopcncaa
