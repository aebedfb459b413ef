/- Walks: files without a name; Remove. -/
import Derived.Test.YtndhpgciopcncaaDisk3
namespace Go.Proofs.Ytndhpgciopcncaa
open Go.RowKit
set_option linter.unusedVariables false

theorem owns_base {w : World} {base base' size n : Nat} {e : TypeId} {v : Value} {xs : List Value} (h : w.ownsRow base e size v n xs) (hb : base' ≤ base) : w.ownsRow base' e size v n xs := by
  refine ⟨h.1, ?_⟩
  rcases h.2 with h2 | ⟨g, cap, cur, h1, h3, r⟩
  · exact .inl h2
  · exact .inr ⟨g, cap, cur, h1, by omega, r⟩

theorem owns_slice {w : World} {base size n : Nat} {e : TypeId} {v : Value} {xs : List Value} (h : w.ownsRow base e size v n xs) : ∃ a cap, v = .slice a n cap := by
  rcases h.2 with ⟨h1, h2⟩ | ⟨g, cap, _, h1, _⟩
  · exact ⟨none, 0, by rw [h1, h2]⟩
  · exact ⟨_, cap, h1⟩

theorem owns_nil (w : World) (base : Nat) (e : TypeId) (size : Nat) : w.ownsRow base e size (.slice none 0 0) 0 [] := World.ownsRow_nil w base e size

theorem take_succ_of {l : List FS} {k : Nat} {f : FS} (h : l[k]? = some f) : l.take (k + 1) = l.take k ++ [f] := by
  rw [List.take_add_one, h]; rfl
/-- what a loop that keeps some has kept. -/
def keptOf (p : FS → Bool) (l : List FS) (k : Nat) : List FS := (l.take k).filter p
theorem keptOf_zero (p : FS → Bool) (l : List FS) : keptOf p l 0 = [] := by simp [keptOf]
theorem keptOf_yes {p : FS → Bool} {l : List FS} {k : Nat} {f : FS} (h : l[k]? = some f) (hp : p f = true) : keptOf p l (k + 1) = keptOf p l k ++ [f] := by
  simp [keptOf, take_succ_of h, List.filter_append, hp]
theorem keptOf_no {p : FS → Bool} {l : List FS} {k : Nat} {f : FS} (h : l[k]? = some f) (hp : p f = false) : keptOf p l (k + 1) = keptOf p l k := by
  simp [keptOf, take_succ_of h, List.filter_append, hp]
theorem keptOf_length (p : FS → Bool) (l : List FS) (k : Nat) : (keptOf p l k).length ≤ k := by
  have := List.length_filter_le p (l.take k); have := List.length_take_le k l; unfold keptOf; omega
theorem keptOf_all (p : FS → Bool) (l : List FS) : keptOf p l l.length = l.filter p := by simp [keptOf]

theorem push_file {w : World} {ops : Array Oper} {rest : List Oper} {o : Oper} {a : Act} {Q : Exit → Act → World → Prop} (hgd : o.guard = none) (s x : Operand)
    (ho : o.op = .call { callee := .builtin .append, args := #[s, x], argTypes := #[56, 56] }) (base : Nat) (v : Value) (l : List FS) (f : FS) (hs : a.eval s = v) (hown : w.ownsRow base 64 3 v l.length (fileCells l))
    (B1 : Nat) (hx : a.eval x = .slice (some ⟨B1, 0, none⟩) 1 1) (hB1 : w.heap[B1]? = some (.cells #[.string f.name, .string f.data, .int .i64 f.safe] 64 (0, 0))) (hl : l.length ≤ 1099511627776) (hbase : base ≤ w.heap.size)
    (h : ∀ g cap w', w'.ownsRow base 64 3 (.slice (some ⟨g, 0, none⟩) (l.length + 1) cap) (l ++ [f]).length (fileCells (l ++ [f])) → w'.ownsRow base 64 3 v l.length (fileCells l) → w.grownBy w' v.ownBlock → (v.ownBlock = some g ∨ g = w.heap.size) → g < w'.heap.size → wpList Try.prog ops Q rest (a.put o.dst (.slice (some ⟨g, 0, none⟩) (l.length + 1) cap)) w') : wpList Try.prog ops Q (o :: rest) a w :=
  wpList_append_keep hgd s x 56 ho base 64 _ 3 40 Try.underlying56 Try.infoFile rfl (by decide) v l.length (fileCells l) hs hown ⟨B1, 0, none⟩ 1 1 [.string f.name, .string f.data, .int .i64 f.safe] hx rfl
    (World.news_of_block (cs := #[.string f.name, .string f.data, .int .i64 f.safe]) hB1) (by intro u hu; simp at hu; rcases hu with rfl | rfl | rfl <;> rfl) (by decide) (by simp only [maxLen]; omega) (by omega) hbase
    fun g cap w' h1 h2 h3 h4 h5 => h g cap w' (pushed_row rfl h1) h2 h3 h4 h5

theorem push_dfile {w : World} {ops : Array Oper} {rest : List Oper} {o : Oper} {a : Act} {Q : Exit → Act → World → Prop} (hgd : o.guard = none) (s x : Operand)
    (ho : o.op = .call { callee := .builtin .append, args := #[s, x], argTypes := #[59, 59] }) (base : Nat) (v : Value) (l : List FS) (f : FS) (hs : a.eval s = v) (hown : w.ownsRow base 66 3 v l.length (fileCells l))
    (B1 : Nat) (hx : a.eval x = .slice (some ⟨B1, 0, none⟩) 1 1) (hB1 : w.heap[B1]? = some (.cells #[.string f.name, .string f.data, .int .i64 f.safe] 66 (0, 0))) (hl : l.length ≤ 1099511627776) (hbase : base ≤ w.heap.size)
    (h : ∀ g cap w', w'.ownsRow base 66 3 (.slice (some ⟨g, 0, none⟩) (l.length + 1) cap) (l ++ [f]).length (fileCells (l ++ [f])) → w'.ownsRow base 66 3 v l.length (fileCells l) → w.grownBy w' v.ownBlock → (v.ownBlock = some g ∨ g = w.heap.size) → g < w'.heap.size → wpList Try.prog ops Q rest (a.put o.dst (.slice (some ⟨g, 0, none⟩) (l.length + 1) cap)) w') : wpList Try.prog ops Q (o :: rest) a w :=
  wpList_append_keep hgd s x 59 ho base 66 _ 3 40 Try.underlying59 Try.infoDFile rfl (by decide) v l.length (fileCells l) hs hown ⟨B1, 0, none⟩ 1 1 [.string f.name, .string f.data, .int .i64 f.safe] hx rfl
    (World.news_of_block (cs := #[.string f.name, .string f.data, .int .i64 f.safe]) hB1) (by intro u hu; simp at hu; rcases hu with rfl | rfl | rfl <;> rfl) (by decide) (by simp only [maxLen]; omega) (by omega) hbase
    fun g cap w' h1 h2 h3 h4 h5 => h g cap w' (pushed_row rfl h1) h2 h3 h4 h5

theorem heap_second (w : World) (o o2 : Obj) : ((w.alloc o).alloc o2).heap[w.heap.size + 1]? = some o2 := by
  have h := heap_alloc_last (w.alloc o) o2
  rwa [show (w.alloc o).heap.size = w.heap.size + 1 by simp] at h
theorem size_first (w : World) (o : Obj) : (w.alloc o).heap.size = w.heap.size + 1 := by simp
theorem size_second (w : World) (o o2 : Obj) : ((w.alloc o).alloc o2).heap.size = w.heap.size + 2 := by simp

def afterRemove (S : DS) (name : ByteArray) : DS := if stoppedB S then stepped S else removed (stepped S) name

set_option maxHeartbeats 1000000 in
theorem remove_go (B : Nat) (p : Nat) (S : DS) (fs : Value) (nm : ByteArray) (w : World) (N : Nat) (hN : N ≤ 1099511627776) (hok : DOk S N) (hB : B ≤ w.heap.size) (hs : stoppedB S = false) (h : DiskAt 58 64 B w p S fs) :
    Calls Try.prog 20 #[.pointer (some ⟨p, 0, none⟩), .string nm] w fun e w' => e = .returned (.bool true) ∧ ∃ fs', DiskAt 58 64 B w' p (removed (stepped S) nm) fs' ∧ Kept (foot p fs) w w' ∧ ∀ k, fs'.ownBlock = some k → fs.ownBlock = some k ∨ w.heap.size ≤ k := by
  obtain ⟨hl1, hl2, hn, hall⟩ := hok
  have HST := hide (step_any B p S fs w ⟨hl1, hl2⟩ h)
  rw [hs] at HST
  have hlen : (stepped S).files.length ≤ N := by rw [stepped_files]; exact hn
  have HL : Hid ((stepped S).files.length = S.files.length) := by show _ = _; rw [stepped_files]
  obtain ⟨a, cap0, rfl⟩ := slice_of h.row
  clear hs hall h
  go_enter Try.func20, Try.ntmps20
  go_wp2_with (go_at_call 27; refine (unhide HST).mono ?_; rintro e w1 ⟨rfl, h1, hk1⟩; have c0 := h1.c0)
  go_loopw [5, 7, 16] (fun v _ y wr => ∃ (k : Nat), k ≤ S.files.length ∧ y = .int .i64 k ∧ wr.ownsRow w1.heap.size 64 3 v (keptOf (fun f => !eqS f.name nm) (stepped S).files k).length (fileCells (keptOf (fun f => !eqS f.name nm) (stepped S).files k)) ∧ Below w1.heap.size w1 wr) (fun _ _ y _ => S.files.length - (intOf y).toNat)
  case atStart => exact ⟨0, Nat.zero_le _, rfl, by rw [keptOf_zero]; exact owns_nil _ _ _ _, Below.refl _ _⟩
  case round =>
    obtain ⟨k, hk, rfl, hv, hb⟩ := hrel
    have hkl := keptOf_length (fun f => !eqS f.name nm) (stepped S).files k
    have h2 := h1.later hb
    by_cases hlt : k < S.files.length
    · obtain ⟨f, hf⟩ := get_of_lt (l := (stepped S).files) (k := k) (by rw [unhide HL]; exact hlt)
      obtain ⟨g, cap', hv', -⟩ := h2.files (by rw [unhide HL]; omega)
      injection hv' with hv1 hv2 hv3
      subst hv1
      obtain ⟨x0, x1, x2, xf⟩ := h2.at hf
      have HF := hide hf
      have hkn : (k : Int) < S.files.length := by omega
      clear hf hv2 hv3
      cases he : eqS f.name nm
      · have he' : (f.name.toList == nm.toList) = false := he
        have HK := hide (keptOf_yes (p := fun f => !eqS f.name nm) (unhide HF) (by simp [he]))
        clear he
        have hbs := hb.size
        go_wp2_with (first
          | (at_builtin; refine push_file rfl _ _ rfl w1.heap.size _ (keptOf (fun f => !eqS f.name nm) (stepped S).files k) f rfl ((hv.alloc _).alloc _) (wr.heap.size + 1) rfl (heap_second _ _ _) ?hll ?hbb ?_; (case hll => omega); (case hbb => (rw [size_second]; omega)); intro g2 cap2 w3 hown hold hgrow hat hlt3)
          | fail)
        have hb3 : Below w1.heap.size w1 w3 := ((hb.alloc hbs _).alloc (by simp; omega) _).grown hgrow (by simp; omega) (fun k hk => (hv.lt k hk).1)
        exact ⟨⟨k + 1, by omega, by go_num, by rw [unhide HK]; exact hown, hb3⟩, by simp [intOf]; omega⟩
      · have he' : (f.name.toList == nm.toList) = true := he
        have HK := hide (keptOf_no (p := fun f => !eqS f.name nm) (unhide HF) (by simp [he]))
        have hbs := hb.size
        clear he
        go_wp2
        go_roundw
        case rel => exact ⟨k + 1, by omega, by go_num, by rw [unhide HK]; exact hv.alloc _, hb.alloc hbs _⟩
        case measure => simp [intOf]; omega
    · have e : k = (stepped S).files.length := by rw [unhide HL]; omega
      have hbs := hb.size
      have hk3 : Kept (foot p (.slice a S.files.length cap0)) w1 wr := Kept.of_below hb
      have hrow := owns_base hv (show B ≤ w1.heap.size by have := hk1.size; omega)
      rw [e, keptOf_all] at hrow
      obtain ⟨a5, cap5, rfl⟩ := owns_slice hv
      obtain ⟨hD, hK⟩ := h1.setFiles (by decide) hk3 (hb.block p h1.lt) hrow
      have hvl := hv.lt
      have d0 := h2.c0
      have d1 := h2.free 0
      clear e
      go_wp2
      go_ret
      exact ⟨rfl, _, hD, hk1.trans hK (fun _ _ hh => hh), fun k hk => .inr (by have := (hvl k hk).1; have := hk1.size; omega)⟩

set_option maxHeartbeats 1000000 in
theorem remove_stopped (B : Nat) (p : Nat) (S : DS) (fs : Value) (nm : ByteArray) (w : World) (N : Nat) (hok : DOk S N) (hs : stoppedB S = true) (h : DiskAt 58 64 B w p S fs) :
    Calls Try.prog 20 #[.pointer (some ⟨p, 0, none⟩), .string nm] w fun e w' => e = .returned (.bool false) ∧ DiskAt 58 64 B w' p (stepped S) fs ∧ Kept (foot p fs) w w' := by
  obtain ⟨hl1, hl2, hn, hall⟩ := hok
  have HST := hide (step_any B p S fs w ⟨hl1, hl2⟩ h)
  rw [hs] at HST
  clear hs hall
  go_enter Try.func20, Try.ntmps20
  go_wp2_with (go_at_call 27; refine (unhide HST).mono ?_; rintro e w1 ⟨rfl, h1, hk1⟩)
  go_ret
  exact ⟨rfl, h1, hk1⟩

theorem remove_any (B : Nat) (p : Nat) (S : DS) (fs : Value) (nm : ByteArray) (w : World) (N : Nat) (hN : N ≤ 1099511627776) (hok : DOk S N) (hB : B ≤ w.heap.size) (h : DiskAt 58 64 B w p S fs) :
    Calls Try.prog 20 #[.pointer (some ⟨p, 0, none⟩), .string nm] w fun e w' => e = .returned (.bool (!stoppedB S)) ∧ ∃ fs', DiskAt 58 64 B w' p (afterRemove S nm) fs' ∧ Kept (foot p fs) w w' ∧ ∀ k, fs'.ownBlock = some k → fs.ownBlock = some k ∨ w.heap.size ≤ k := by
  cases hs : stoppedB S
  · have e : afterRemove S nm = removed (stepped S) nm := by simp [afterRemove, hs]
    rw [e]
    exact remove_go B p S fs nm w N hN hok hB hs h
  · have e : afterRemove S nm = stepped S := by simp [afterRemove, hs]
    rw [e]
    exact (remove_stopped B p S fs nm w N hok hs h).mono fun e w' ⟨h1, h2, h3⟩ => ⟨h1, fs, h2, h3, fun k hk => .inl hk⟩
end Go.Proofs.Ytndhpgciopcncaa
