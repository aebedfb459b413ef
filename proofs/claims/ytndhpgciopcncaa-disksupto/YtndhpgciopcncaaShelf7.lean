/- Walk: act, on one of the disks. -/
import Derived.Test.YtndhpgciopcncaaShelf6
namespace Go.Proofs.Ytndhpgciopcncaa
open Go.RowKit
set_option linter.unusedVariables false

theorem DOk_mono {S : DS} {N N' : Nat} (h : DOk S N) (hN : N ≤ N') : DOk S N' := ⟨h.1, h.2.1, Nat.le_trans h.2.2.1 hN, fun f hf => ⟨(h.2.2.2 f hf).1, Nat.le_trans (h.2.2.2 f hf).2 hN⟩⟩
theorem DOk_stepped {S : DS} {N : Nat} (h : DOk S N) : DOk (stepped S) N := by
  obtain ⟨h1, h2, h3, h4⟩ := h
  unfold stepped
  split
  · exact ⟨h1, h2, h3, h4⟩
  · refine ⟨?_, ?_, h3, h4⟩ <;> (dsimp only; split <;> omega)
theorem DOk_files {S : DS} {N N' : Nat} (h : DOk S N) (l : List FS) (hl : l.length ≤ N') (hf : ∀ f ∈ l, f.safe ≤ f.data.size ∧ f.data.size ≤ N') : DOk { S with files := l } N' := ⟨h.1, h.2.1, hl, hf⟩
theorem mem_set_or {l : List FS} {i : Nat} {x f : FS} (h : f ∈ l.set i x) : f = x ∨ f ∈ l := by
  rcases List.mem_or_eq_of_mem_set h with h | h
  · exact .inr h
  · exact .inl h
theorem DOk_append {S : DS} {N : Nat} (h : DOk S N) (n s : ByteArray) (hs : s.size ≤ 1048576) : DOk (afterAppend S n s) (N + 1048577) := by
  cases hst : stoppedB S
  · have h0 := DOk_stepped h
    cases hpl : place S.files n with
    | none =>
      rw [afterAppend_none hst hpl]
      refine DOk_files h0 _ (by simp; have := h0.2.2.1; omega) (fun f hf => ?_)
      rcases List.mem_append.1 hf with hf | hf
      · have := h0.2.2.2 f hf; omega
      · simp at hf; subst hf; exact ⟨Nat.zero_le _, by dsimp only; omega⟩
    | some i =>
      obtain ⟨f0, hf0, _, _⟩ := place_some hpl
      rw [afterAppend_some hst hpl hf0]
      refine DOk_files h0 _ (by simp; have := h0.2.2.1; omega) (fun f hf => ?_)
      have hm0 := h0.2.2.2 f0 (List.mem_of_getElem? (by rw [stepped_files]; exact hf0))
      rcases mem_set_or hf with rfl | hf
      · dsimp only; rw [ByteArray.size_append]; omega
      · have := h0.2.2.2 f hf; omega
  · rw [afterAppend_stopped hst]; exact DOk_mono (DOk_stepped h) (by omega)
theorem DOk_sync {S : DS} {N : Nat} (h : DOk S N) (n : ByteArray) : DOk (afterSync S n) (N + 1048577) := by
  cases hst : stoppedB S
  · have h0 := DOk_stepped h
    cases hpl : place S.files n with
    | none => rw [afterSync_none hst hpl]; exact DOk_mono h0 (by omega)
    | some i =>
      obtain ⟨f0, hf0, _, _⟩ := place_some hpl
      rw [afterSync_some hst hpl hf0]
      refine DOk_files h0 _ (by simp; have := h0.2.2.1; omega) (fun f hf => ?_)
      have hm0 := h0.2.2.2 f0 (List.mem_of_getElem? (by rw [stepped_files]; exact hf0))
      rcases mem_set_or hf with rfl | hf
      · dsimp only; omega
      · have := h0.2.2.2 f hf; omega
  · rw [afterSync_stopped hst]; exact DOk_mono (DOk_stepped h) (by omega)
theorem DOk_rename {S : DS} {N : Nat} (h : DOk S N) (old new : ByteArray) : DOk (afterRename S old new) (N + 1048577) := by
  have h0 := DOk_stepped h
  cases hst : stoppedB S
  · cases hpl : place S.files old with
    | none => rw [afterRename_none hst hpl]; exact DOk_mono h0 (by omega)
    | some i =>
      obtain ⟨f0, hf0, _, _⟩ := place_some hpl
      cases he : eqS old new
      · rw [afterRename_go hst hpl hf0 he]
        have hm0 := h0.2.2.2 f0 (List.mem_of_getElem? (by rw [stepped_files]; exact hf0))
        refine DOk_files h0 _ (by have := List.length_filter_le (keepsR old new) (stepped S).files; simp; have := h0.2.2.1; omega) (fun f hf => ?_)
        rcases List.mem_append.1 hf with hf | hf
        · have := h0.2.2.2 f ((List.mem_filter.1 hf).1); omega
        · simp at hf; subst hf; dsimp only; omega
      · rw [afterRename_same hst hpl he]; exact DOk_mono h0 (by omega)
  · rw [afterRename_stopped hst]; exact DOk_mono h0 (by omega)
theorem DOk_remove {S : DS} {N : Nat} (h : DOk S N) (n : ByteArray) : DOk (afterRemove S n) (N + 1048577) := by
  have h0 := DOk_stepped h
  unfold afterRemove
  split
  · exact DOk_mono h0 (by omega)
  · refine DOk_files h0 _ (by have := List.length_filter_le (fun f : FS => !eqS f.name n) (stepped S).files; have := h0.2.2.1; unfold without; omega) (fun f hf => ?_)
    have := h0.2.2.2 f ((List.mem_filter.1 hf).1); omega

theorem Good.after {B N K pw : Nat} {w0 w w' : World} (h : Good B N K pw w w') (hb : Below B w0 w) : Good B N K pw w0 w' := by
  obtain ⟨its, kn, lv, nv, mv, h1, h2, h3, h4, h5⟩ := h
  exact ⟨its, kn, lv, nv, mv, h1, h2, h3, h4, hb.trans h5⟩

theorem below_foot2 {B X N : Nat} {w w' : World} {it : Item} (h : ItemAt B X N w it) (hk : Kept (foot2 it) w w') (hB : B ≤ w.heap.size) : Below B w w' := hk.below hB (fun k hk => by
  rcases hk with hk | hk
  · rcases hk with rfl | hk
    · exact h.d.base
    · exact (h.d.row.lt k hk).1
  · rcases hk with rfl | hk
    · exact h.r.base
    · exact (h.r.row.lt k hk).1)

section
variable {B X N K pw : Nat} {w : World} {its : List Item} {kn : List (Value × ByteArray)} {lv nv mv : Value}

theorem get_item {l : List Item} {k : Nat} (h : k < l.length) : ∃ f, l[k]? = some f := ⟨_, List.getElem?_eq_getElem h⟩

set_option maxHeartbeats 4000000 in
theorem act_told (h : Shelf B X N w pw its kn lv nv mv) (hN : N ≤ 1000000000000) (hi0 : its.length ≤ K) (hk0 : kn.length ≤ 4 * K) (hK : K ≤ 200000000) (hn0 : ∀ x ∈ kn, ∀ a n cap, x.1 = .slice a n cap → n ≤ N + 3) (hpos : 0 < its.length) (kd : Int) (hkd : ¬ (1 ≤ kd ∧ kd ≤ 5)) (on a : Int) (hon : -9223372036854775808 ≤ on ∧ on ≤ 9223372036854775807) (ha : a ≤ 9223372036854775807) (n s : ByteArray) (hss : s.size ≤ 1048576) :
    Calls Try.prog 7 #[.pointer (some ⟨pw, 0, none⟩), .agg #[.int .i64 kd, .int .i64 on, .int .i64 a, .string n, .string s]] w fun e w' => e = .returned (.bool true) ∧ Good B N (K + 1) pw w w' := by
  obtain ⟨alv, clv, hlv⟩ := owns_slice h.lrow
  subst hlv
  obtain ⟨gl, cl', hgl, _, hgls⟩ := h.lrow.form hpos
  injection hgl with hgl1 hgl2 hgl3
  subst hgl1
  obtain ⟨i, hi⟩ := Int.eq_ofNat_of_zero_le (pickI_bd on its.length (by omega)).1
  have hil : i < its.length := by have := (pickI_bd on its.length (by omega)).2; omega
  obtain ⟨it, hit⟩ := get_item hil
  have k1 : (kd == 1) = false := beq_eq_false_iff_ne.2 (by omega)
  have k2 : (kd == 2) = false := beq_eq_false_iff_ne.2 (by omega)
  have k3 : (kd == 3) = false := beq_eq_false_iff_ne.2 (by omega)
  have k4 : (kd == 4) = false := beq_eq_false_iff_ne.2 (by omega)
  have k5 : (kd == 5) = false := beq_eq_false_iff_ne.2 (by omega)
  have kl : ((its.length : Int) == 0) = false := beq_eq_false_iff_ne.2 (by omega)
  have bb : Below w.heap.size w (w.alloc (.cells #[.int .i64 kd, .int .i64 on, .int .i64 a, .string n, .string s] 39)) := (Below.refl _ _).alloc (Nat.le_refl _) _
  have hbx : (w.alloc (.cells #[.int .i64 kd, .int .i64 on, .int .i64 a, .string n, .string s] 39)).heap[w.heap.size]? = some (.cells #[.int .i64 kd, .int .i64 on, .int .i64 a, .string n, .string s] 39 (0, 0)) := heap_alloc_last _ _
  have hs := h.later (bb.mono h.XW)
  have hpl := lt_of_heap h.head
  have c0 : (w.alloc (.cells #[.int .i64 kd, .int .i64 on, .int .i64 a, .string n, .string s] 39)).cell? ⟨pw, 0, none⟩ = some (.slice (some ⟨gl, 0, none⟩) its.length clv) := by rw [dcell hs.head]; rfl
  have c1 : (w.alloc (.cells #[.int .i64 kd, .int .i64 on, .int .i64 a, .string n, .string s] 39)).cell? ⟨w.heap.size, 1, none⟩ = some (.int .i64 on) := by rw [dcell hbx]; rfl
  have c2 : (w.alloc (.cells #[.int .i64 kd, .int .i64 on, .int .i64 a, .string n, .string s] 39)).cell? ⟨gl, i * 2, none⟩ = some (.pointer (some ⟨it.p, 0, none⟩)) := by rw [hs.lrow.cellAt _ (by omega)]; exact pairCells_0 _ _ _ hit
  have c3 : (w.alloc (.cells #[.int .i64 kd, .int .i64 on, .int .i64 a, .string n, .string s] 39)).cell? ⟨gl, i * 2 + 1, none⟩ = some (.pointer (some ⟨it.q, 0, none⟩)) := by rw [hs.lrow.cellAt _ (by omega)]; exact pairCells_1 _ _ _ hit
  have hin : (i : Int) < its.length := by omega
  have HP : Hid (pickI on its.length = i) := hi
  obtain ⟨t1, t2, t3, t4⟩ := two_boxes w (.cells #[.int .i64 kd, .int .i64 on, .int .i64 a, .string n, .string s] 39) (.cells #[.pointer (some ⟨it.p, 0, none⟩), .pointer (some ⟨it.q, 0, none⟩)] 48)
  have T1 : Hid (((w.alloc (.cells #[.int .i64 kd, .int .i64 on, .int .i64 a, .string n, .string s] 39)).alloc (.cells #[.pointer (some ⟨it.p, 0, none⟩), .pointer (some ⟨it.q, 0, none⟩)] 48)).drew.heap[w.heap.size]? = some (.cells #[.int .i64 kd, .int .i64 on, .int .i64 a, .string n, .string s] 39 (0, 0))) := t1
  have T2 : Hid (((w.alloc (.cells #[.int .i64 kd, .int .i64 on, .int .i64 a, .string n, .string s] 39)).alloc (.cells #[.pointer (some ⟨it.p, 0, none⟩), .pointer (some ⟨it.q, 0, none⟩)] 48)).drew.heap[w.heap.size + 1]? = some (.cells #[.pointer (some ⟨it.p, 0, none⟩), .pointer (some ⟨it.q, 0, none⟩)] 48 (0, 0))) := t2
  have T3 : Hid (Below w.heap.size w ((w.alloc (.cells #[.int .i64 kd, .int .i64 on, .int .i64 a, .string n, .string s] 39)).alloc (.cells #[.pointer (some ⟨it.p, 0, none⟩), .pointer (some ⟨it.q, 0, none⟩)] 48)).drew) := t3.drew
  have HHN := hide hn0
  have HIT := hide hit
  have HH := hide h
  clear hi hgl2 hgl3 hn0 hit hs h hbx bb t1 t2 t3 t4 hkd
  go_enter Try.func7, Try.ntmps7
  go_wp2_with fail
  go_region_held3 (fun w' => w'.cell? ⟨pw, 0, none⟩ = some (.slice (some ⟨gl, 0, none⟩) its.length clv) ∧ w'.cell? ⟨w.heap.size, 1, none⟩ = some (.int .i64 on) ∧ w'.cell? ⟨gl, i * 2, none⟩ = some (.pointer (some ⟨it.p, 0, none⟩)) ∧ w'.cell? ⟨gl, i * 2 + 1, none⟩ = some (.pointer (some ⟨it.q, 0, none⟩))) (go_keep) (first
    | (go_at_call 13; refine (pick_any on its.length _ hon ⟨by omega, by omega⟩).mono ?_; rintro e w' ⟨rfl, rfl⟩; rw [unhide HP]))
  all_goals
    generalize ((w.alloc (.cells #[.int .i64 kd, .int .i64 on, .int .i64 a, .string n, .string s] 39)).alloc (.cells #[.pointer (some ⟨it.p, 0, none⟩), .pointer (some ⟨it.q, 0, none⟩)] 48)).drew = W at T1 T2 T3 ⊢
    have hs := (unhide HH).later ((unhide T3).mono (unhide HH).XW)
    have a1 := hs.items i it (unhide HIT)
    have hBw : B ≤ w.heap.size := Nat.le_trans (unhide HH).BX (unhide HH).XW
    have hBW : B ≤ W.heap.size := Nat.le_trans hBw (unhide T3).size
    have x0 : W.cell? ⟨w.heap.size, 0, none⟩ = some (.int .i64 kd) := by rw [dcell (unhide T1)]; rfl
    have x1 : W.cell? ⟨w.heap.size, 1, none⟩ = some (.int .i64 on) := by rw [dcell (unhide T1)]; rfl
    have x2 : W.cell? ⟨w.heap.size, 2, none⟩ = some (.int .i64 a) := by rw [dcell (unhide T1)]; rfl
    have x3 : W.cell? ⟨w.heap.size, 3, none⟩ = some (.string n) := by rw [dcell (unhide T1)]; rfl
    have x4 : W.cell? ⟨w.heap.size, 4, none⟩ = some (.string s) := by rw [dcell (unhide T1)]; rfl
    have p0 : W.cell? ⟨w.heap.size + 1, 0, none⟩ = some (.pointer (some ⟨it.p, 0, none⟩)) := by rw [dcell (unhide T2)]; rfl
    have p1 : W.cell? ⟨w.heap.size + 1, 1, none⟩ = some (.pointer (some ⟨it.q, 0, none⟩)) := by rw [dcell (unhide T2)]; rfl
    have HS := hide hs
    have HA := hide a1
    clear hs a1 c0 c1 c2 c3
    go_wp2_with (go_at_call 22; refine (told_any (unhide HS) hN hi0 hk0 hK (unhide HHN) i (unhide HIT) kd on a ha n s).mono ?_; rintro e W3 ⟨rfl, hg⟩)
    go_ret
    exact ⟨rfl, hg.after ((unhide T3).mono hBw)⟩

set_option maxHeartbeats 4000000 in
theorem act_append (h : Shelf B X N w pw its kn lv nv mv) (hN : N ≤ 1000000000000) (hi0 : its.length ≤ K) (hk0 : kn.length ≤ 4 * K) (hK : K ≤ 200000000) (hn0 : ∀ x ∈ kn, ∀ a n cap, x.1 = .slice a n cap → n ≤ N + 3) (hpos : 0 < its.length) (on a : Int) (hon : -9223372036854775808 ≤ on ∧ on ≤ 9223372036854775807) (ha : a ≤ 9223372036854775807) (n s : ByteArray) (hss : s.size ≤ 1048576) :
    Calls Try.prog 7 #[.pointer (some ⟨pw, 0, none⟩), .agg #[.int .i64 2, .int .i64 on, .int .i64 a, .string n, .string s]] w fun e w' => e = .returned (.bool true) ∧ Good B (N + 1048577) (K + 1) pw w w' := by
  obtain ⟨alv, clv, hlv⟩ := owns_slice h.lrow
  subst hlv
  obtain ⟨gl, cl', hgl, _, hgls⟩ := h.lrow.form hpos
  injection hgl with hgl1 hgl2 hgl3
  subst hgl1
  obtain ⟨i, hi⟩ := Int.eq_ofNat_of_zero_le (pickI_bd on its.length (by omega)).1
  have hil : i < its.length := by have := (pickI_bd on its.length (by omega)).2; omega
  obtain ⟨it, hit⟩ := get_item hil
  have kl : ((its.length : Int) == 0) = false := beq_eq_false_iff_ne.2 (by omega)
  have bb : Below w.heap.size w (w.alloc (.cells #[.int .i64 2, .int .i64 on, .int .i64 a, .string n, .string s] 39)) := (Below.refl _ _).alloc (Nat.le_refl _) _
  have hbx : (w.alloc (.cells #[.int .i64 2, .int .i64 on, .int .i64 a, .string n, .string s] 39)).heap[w.heap.size]? = some (.cells #[.int .i64 2, .int .i64 on, .int .i64 a, .string n, .string s] 39 (0, 0)) := heap_alloc_last _ _
  have hs := h.later (bb.mono h.XW)
  have hpl := lt_of_heap h.head
  have c0 : (w.alloc (.cells #[.int .i64 2, .int .i64 on, .int .i64 a, .string n, .string s] 39)).cell? ⟨pw, 0, none⟩ = some (.slice (some ⟨gl, 0, none⟩) its.length clv) := by rw [dcell hs.head]; rfl
  have c1 : (w.alloc (.cells #[.int .i64 2, .int .i64 on, .int .i64 a, .string n, .string s] 39)).cell? ⟨w.heap.size, 1, none⟩ = some (.int .i64 on) := by rw [dcell hbx]; rfl
  have c2 : (w.alloc (.cells #[.int .i64 2, .int .i64 on, .int .i64 a, .string n, .string s] 39)).cell? ⟨gl, i * 2, none⟩ = some (.pointer (some ⟨it.p, 0, none⟩)) := by rw [hs.lrow.cellAt _ (by omega)]; exact pairCells_0 _ _ _ hit
  have c3 : (w.alloc (.cells #[.int .i64 2, .int .i64 on, .int .i64 a, .string n, .string s] 39)).cell? ⟨gl, i * 2 + 1, none⟩ = some (.pointer (some ⟨it.q, 0, none⟩)) := by rw [hs.lrow.cellAt _ (by omega)]; exact pairCells_1 _ _ _ hit
  have hin : (i : Int) < its.length := by omega
  have HP : Hid (pickI on its.length = i) := hi
  obtain ⟨t1, t2, t3, t4⟩ := two_boxes w (.cells #[.int .i64 2, .int .i64 on, .int .i64 a, .string n, .string s] 39) (.cells #[.pointer (some ⟨it.p, 0, none⟩), .pointer (some ⟨it.q, 0, none⟩)] 48)
  have T1 : Hid (((w.alloc (.cells #[.int .i64 2, .int .i64 on, .int .i64 a, .string n, .string s] 39)).alloc (.cells #[.pointer (some ⟨it.p, 0, none⟩), .pointer (some ⟨it.q, 0, none⟩)] 48)).drew.heap[w.heap.size]? = some (.cells #[.int .i64 2, .int .i64 on, .int .i64 a, .string n, .string s] 39 (0, 0))) := t1
  have T2 : Hid (((w.alloc (.cells #[.int .i64 2, .int .i64 on, .int .i64 a, .string n, .string s] 39)).alloc (.cells #[.pointer (some ⟨it.p, 0, none⟩), .pointer (some ⟨it.q, 0, none⟩)] 48)).drew.heap[w.heap.size + 1]? = some (.cells #[.pointer (some ⟨it.p, 0, none⟩), .pointer (some ⟨it.q, 0, none⟩)] 48 (0, 0))) := t2
  have T3 : Hid (Below w.heap.size w ((w.alloc (.cells #[.int .i64 2, .int .i64 on, .int .i64 a, .string n, .string s] 39)).alloc (.cells #[.pointer (some ⟨it.p, 0, none⟩), .pointer (some ⟨it.q, 0, none⟩)] 48)).drew) := t3.drew
  have HHN := hide hn0
  have HIT := hide hit
  have HH := hide h
  clear hi hgl2 hgl3 hn0 hit hs h hbx bb t1 t2 t3 t4
  go_enter Try.func7, Try.ntmps7
  go_wp2_with fail
  go_region_held3 (fun w' => w'.cell? ⟨pw, 0, none⟩ = some (.slice (some ⟨gl, 0, none⟩) its.length clv) ∧ w'.cell? ⟨w.heap.size, 1, none⟩ = some (.int .i64 on) ∧ w'.cell? ⟨gl, i * 2, none⟩ = some (.pointer (some ⟨it.p, 0, none⟩)) ∧ w'.cell? ⟨gl, i * 2 + 1, none⟩ = some (.pointer (some ⟨it.q, 0, none⟩))) (go_keep) (first
    | (go_at_call 13; refine (pick_any on its.length _ hon ⟨by omega, by omega⟩).mono ?_; rintro e w' ⟨rfl, rfl⟩; rw [unhide HP]))
  all_goals
    generalize ((w.alloc (.cells #[.int .i64 2, .int .i64 on, .int .i64 a, .string n, .string s] 39)).alloc (.cells #[.pointer (some ⟨it.p, 0, none⟩), .pointer (some ⟨it.q, 0, none⟩)] 48)).drew = W at T1 T2 T3 ⊢
    have hs := (unhide HH).later ((unhide T3).mono (unhide HH).XW)
    have a1 := hs.items i it (unhide HIT)
    have hBw : B ≤ w.heap.size := Nat.le_trans (unhide HH).BX (unhide HH).XW
    have hBW : B ≤ W.heap.size := Nat.le_trans hBw (unhide T3).size
    have x0 : W.cell? ⟨w.heap.size, 0, none⟩ = some (.int .i64 2) := by rw [dcell (unhide T1)]; rfl
    have x1 : W.cell? ⟨w.heap.size, 1, none⟩ = some (.int .i64 on) := by rw [dcell (unhide T1)]; rfl
    have x2 : W.cell? ⟨w.heap.size, 2, none⟩ = some (.int .i64 a) := by rw [dcell (unhide T1)]; rfl
    have x3 : W.cell? ⟨w.heap.size, 3, none⟩ = some (.string n) := by rw [dcell (unhide T1)]; rfl
    have x4 : W.cell? ⟨w.heap.size, 4, none⟩ = some (.string s) := by rw [dcell (unhide T1)]; rfl
    have p0 : W.cell? ⟨w.heap.size + 1, 0, none⟩ = some (.pointer (some ⟨it.p, 0, none⟩)) := by rw [dcell (unhide T2)]; rfl
    have p1 : W.cell? ⟨w.heap.size + 1, 1, none⟩ = some (.pointer (some ⟨it.q, 0, none⟩)) := by rw [dcell (unhide T2)]; rfl
    have HS := hide hs
    have HA := hide a1
    clear hs a1 c0 c1 c2 c3
    have HR := hide (append_any B it.p it.S it.fs n s W N (by omega) (unhide HA).ok (by omega) hBW (unhide HA).d)
    go_wp2_with (first
      | (go_at_call 14; refine (unhide HR).mono ?_; rintro e W1 ⟨rfl, fs1, d1, k1, f1⟩; have e1 := box_kept (unhide HA).d k1 (unhide T1) (by decide) (by decide); have e2 := box_kept (unhide HA).d k1 (unhide T2) (by decide) (by decide); have r1 := (unhide HA).r.kept k1 (fun k hk hf => foot_apart (unhide HA).d (unhide HA).r (by decide) (by decide) (by decide) (by decide) hf hk); have z3 : W1.cell? ⟨w.heap.size, 3, none⟩ = some (.string n) := (by rw [dcell e1]; rfl); have z4 : W1.cell? ⟨w.heap.size, 4, none⟩ = some (.string s) := (by rw [dcell e1]; rfl); have q1 : W1.cell? ⟨w.heap.size + 1, 1, none⟩ = some (.pointer (some ⟨it.q, 0, none⟩)) := (by rw [dcell e2]; rfl); have hBW1 : B ≤ W1.heap.size := Nat.le_trans hBW k1.size; clear e1 e2)
      | (go_at_call 15; refine (rappend_any B it.q it.S it.gs n s _ N (by omega) (unhide HA).ok (by omega) hBW1 r1).mono ?_; rintro e W2 ⟨rfl, gs1, d2, k2, g1⟩))
    go_ret
    have d1' := d1.kept k2 (fun k hk hf => foot_apart d1 r1 (by decide) (by decide) (by decide) (by decide) hk hf)
    have hk12 : Kept (foot2 it) W W2 := (k1.mono (fun _ _ hh => .inl hh)).trans (k2.mono (g := foot2 it) (fun _ _ hh => .inr hh)) (fun _ _ hh => hh)
    have hup := (unhide HS).update (unhide HIT) hk12 d1' d2 f1 (fun k hk => (g1 k hk).elim .inl (fun x => .inr (by have := k1.size; omega))) (Nat.le_add_right N 1048577) (DOk_append (unhide HA).ok n s hss)
    refine ⟨dret_bool (by simp), _, kn, _, _, _, hup, by simp; omega, by omega, fun x hx a n cap e => by have := unhide HHN x hx a n cap e; omega, ((unhide T3).mono hBw).trans (below_foot2 (unhide HA) hk12 hBW)⟩

set_option maxHeartbeats 4000000 in
theorem act_sync (h : Shelf B X N w pw its kn lv nv mv) (hN : N ≤ 1000000000000) (hi0 : its.length ≤ K) (hk0 : kn.length ≤ 4 * K) (hK : K ≤ 200000000) (hn0 : ∀ x ∈ kn, ∀ a n cap, x.1 = .slice a n cap → n ≤ N + 3) (hpos : 0 < its.length) (on a : Int) (hon : -9223372036854775808 ≤ on ∧ on ≤ 9223372036854775807) (ha : a ≤ 9223372036854775807) (n s : ByteArray) (hss : s.size ≤ 1048576) :
    Calls Try.prog 7 #[.pointer (some ⟨pw, 0, none⟩), .agg #[.int .i64 3, .int .i64 on, .int .i64 a, .string n, .string s]] w fun e w' => e = .returned (.bool true) ∧ Good B (N + 1048577) (K + 1) pw w w' := by
  obtain ⟨alv, clv, hlv⟩ := owns_slice h.lrow
  subst hlv
  obtain ⟨gl, cl', hgl, _, hgls⟩ := h.lrow.form hpos
  injection hgl with hgl1 hgl2 hgl3
  subst hgl1
  obtain ⟨i, hi⟩ := Int.eq_ofNat_of_zero_le (pickI_bd on its.length (by omega)).1
  have hil : i < its.length := by have := (pickI_bd on its.length (by omega)).2; omega
  obtain ⟨it, hit⟩ := get_item hil
  have kl : ((its.length : Int) == 0) = false := beq_eq_false_iff_ne.2 (by omega)
  have bb : Below w.heap.size w (w.alloc (.cells #[.int .i64 3, .int .i64 on, .int .i64 a, .string n, .string s] 39)) := (Below.refl _ _).alloc (Nat.le_refl _) _
  have hbx : (w.alloc (.cells #[.int .i64 3, .int .i64 on, .int .i64 a, .string n, .string s] 39)).heap[w.heap.size]? = some (.cells #[.int .i64 3, .int .i64 on, .int .i64 a, .string n, .string s] 39 (0, 0)) := heap_alloc_last _ _
  have hs := h.later (bb.mono h.XW)
  have hpl := lt_of_heap h.head
  have c0 : (w.alloc (.cells #[.int .i64 3, .int .i64 on, .int .i64 a, .string n, .string s] 39)).cell? ⟨pw, 0, none⟩ = some (.slice (some ⟨gl, 0, none⟩) its.length clv) := by rw [dcell hs.head]; rfl
  have c1 : (w.alloc (.cells #[.int .i64 3, .int .i64 on, .int .i64 a, .string n, .string s] 39)).cell? ⟨w.heap.size, 1, none⟩ = some (.int .i64 on) := by rw [dcell hbx]; rfl
  have c2 : (w.alloc (.cells #[.int .i64 3, .int .i64 on, .int .i64 a, .string n, .string s] 39)).cell? ⟨gl, i * 2, none⟩ = some (.pointer (some ⟨it.p, 0, none⟩)) := by rw [hs.lrow.cellAt _ (by omega)]; exact pairCells_0 _ _ _ hit
  have c3 : (w.alloc (.cells #[.int .i64 3, .int .i64 on, .int .i64 a, .string n, .string s] 39)).cell? ⟨gl, i * 2 + 1, none⟩ = some (.pointer (some ⟨it.q, 0, none⟩)) := by rw [hs.lrow.cellAt _ (by omega)]; exact pairCells_1 _ _ _ hit
  have hin : (i : Int) < its.length := by omega
  have HP : Hid (pickI on its.length = i) := hi
  obtain ⟨t1, t2, t3, t4⟩ := two_boxes w (.cells #[.int .i64 3, .int .i64 on, .int .i64 a, .string n, .string s] 39) (.cells #[.pointer (some ⟨it.p, 0, none⟩), .pointer (some ⟨it.q, 0, none⟩)] 48)
  have T1 : Hid (((w.alloc (.cells #[.int .i64 3, .int .i64 on, .int .i64 a, .string n, .string s] 39)).alloc (.cells #[.pointer (some ⟨it.p, 0, none⟩), .pointer (some ⟨it.q, 0, none⟩)] 48)).drew.heap[w.heap.size]? = some (.cells #[.int .i64 3, .int .i64 on, .int .i64 a, .string n, .string s] 39 (0, 0))) := t1
  have T2 : Hid (((w.alloc (.cells #[.int .i64 3, .int .i64 on, .int .i64 a, .string n, .string s] 39)).alloc (.cells #[.pointer (some ⟨it.p, 0, none⟩), .pointer (some ⟨it.q, 0, none⟩)] 48)).drew.heap[w.heap.size + 1]? = some (.cells #[.pointer (some ⟨it.p, 0, none⟩), .pointer (some ⟨it.q, 0, none⟩)] 48 (0, 0))) := t2
  have T3 : Hid (Below w.heap.size w ((w.alloc (.cells #[.int .i64 3, .int .i64 on, .int .i64 a, .string n, .string s] 39)).alloc (.cells #[.pointer (some ⟨it.p, 0, none⟩), .pointer (some ⟨it.q, 0, none⟩)] 48)).drew) := t3.drew
  have HHN := hide hn0
  have HIT := hide hit
  have HH := hide h
  clear hi hgl2 hgl3 hn0 hit hs h hbx bb t1 t2 t3 t4
  go_enter Try.func7, Try.ntmps7
  go_wp2_with fail
  go_region_held3 (fun w' => w'.cell? ⟨pw, 0, none⟩ = some (.slice (some ⟨gl, 0, none⟩) its.length clv) ∧ w'.cell? ⟨w.heap.size, 1, none⟩ = some (.int .i64 on) ∧ w'.cell? ⟨gl, i * 2, none⟩ = some (.pointer (some ⟨it.p, 0, none⟩)) ∧ w'.cell? ⟨gl, i * 2 + 1, none⟩ = some (.pointer (some ⟨it.q, 0, none⟩))) (go_keep) (first
    | (go_at_call 13; refine (pick_any on its.length _ hon ⟨by omega, by omega⟩).mono ?_; rintro e w' ⟨rfl, rfl⟩; rw [unhide HP]))
  all_goals
    generalize ((w.alloc (.cells #[.int .i64 3, .int .i64 on, .int .i64 a, .string n, .string s] 39)).alloc (.cells #[.pointer (some ⟨it.p, 0, none⟩), .pointer (some ⟨it.q, 0, none⟩)] 48)).drew = W at T1 T2 T3 ⊢
    have hs := (unhide HH).later ((unhide T3).mono (unhide HH).XW)
    have a1 := hs.items i it (unhide HIT)
    have hBw : B ≤ w.heap.size := Nat.le_trans (unhide HH).BX (unhide HH).XW
    have hBW : B ≤ W.heap.size := Nat.le_trans hBw (unhide T3).size
    have x0 : W.cell? ⟨w.heap.size, 0, none⟩ = some (.int .i64 3) := by rw [dcell (unhide T1)]; rfl
    have x1 : W.cell? ⟨w.heap.size, 1, none⟩ = some (.int .i64 on) := by rw [dcell (unhide T1)]; rfl
    have x2 : W.cell? ⟨w.heap.size, 2, none⟩ = some (.int .i64 a) := by rw [dcell (unhide T1)]; rfl
    have x3 : W.cell? ⟨w.heap.size, 3, none⟩ = some (.string n) := by rw [dcell (unhide T1)]; rfl
    have x4 : W.cell? ⟨w.heap.size, 4, none⟩ = some (.string s) := by rw [dcell (unhide T1)]; rfl
    have p0 : W.cell? ⟨w.heap.size + 1, 0, none⟩ = some (.pointer (some ⟨it.p, 0, none⟩)) := by rw [dcell (unhide T2)]; rfl
    have p1 : W.cell? ⟨w.heap.size + 1, 1, none⟩ = some (.pointer (some ⟨it.q, 0, none⟩)) := by rw [dcell (unhide T2)]; rfl
    have HS := hide hs
    have HA := hide a1
    clear hs a1 c0 c1 c2 c3
    have HR := hide (sync_any B it.p it.S it.fs n W N (by omega) (unhide HA).ok (unhide HA).d)
    go_wp2_with (first
      | (go_at_call 16; refine (unhide HR).mono ?_; rintro e W1 ⟨rfl, d1, k1⟩; have e1 := box_kept (unhide HA).d k1 (unhide T1) (by decide) (by decide); have e2 := box_kept (unhide HA).d k1 (unhide T2) (by decide) (by decide); have r1 := (unhide HA).r.kept k1 (fun k hk hf => foot_apart (unhide HA).d (unhide HA).r (by decide) (by decide) (by decide) (by decide) hf hk); have z3 : W1.cell? ⟨w.heap.size, 3, none⟩ = some (.string n) := (by rw [dcell e1]; rfl); have z4 : W1.cell? ⟨w.heap.size, 4, none⟩ = some (.string s) := (by rw [dcell e1]; rfl); have q1 : W1.cell? ⟨w.heap.size + 1, 1, none⟩ = some (.pointer (some ⟨it.q, 0, none⟩)) := (by rw [dcell e2]; rfl); have hBW1 : B ≤ W1.heap.size := Nat.le_trans hBW k1.size; clear e1 e2)
      | (go_at_call 17; refine (rsync_any B it.q it.S it.gs n _ N (by omega) (unhide HA).ok r1).mono ?_; rintro e W2 ⟨rfl, d2, k2⟩))
    go_ret
    have d1' := d1.kept k2 (fun k hk hf => foot_apart d1 r1 (by decide) (by decide) (by decide) (by decide) hk hf)
    have hk12 : Kept (foot2 it) W W2 := (k1.mono (fun _ _ hh => .inl hh)).trans (k2.mono (g := foot2 it) (fun _ _ hh => .inr hh)) (fun _ _ hh => hh)
    have hup := (unhide HS).update (unhide HIT) hk12 d1' d2 (fun k hk => .inl hk) (fun k hk => .inl hk) (Nat.le_add_right N 1048577) (DOk_sync (unhide HA).ok n)
    refine ⟨dret_bool (by simp), _, kn, _, _, _, hup, by simp; omega, by omega, fun x hx a n cap e => by have := unhide HHN x hx a n cap e; omega, ((unhide T3).mono hBw).trans (below_foot2 (unhide HA) hk12 hBW)⟩

set_option maxHeartbeats 4000000 in
theorem act_rename (h : Shelf B X N w pw its kn lv nv mv) (hN : N ≤ 1000000000000) (hi0 : its.length ≤ K) (hk0 : kn.length ≤ 4 * K) (hK : K ≤ 200000000) (hn0 : ∀ x ∈ kn, ∀ a n cap, x.1 = .slice a n cap → n ≤ N + 3) (hpos : 0 < its.length) (on a : Int) (hon : -9223372036854775808 ≤ on ∧ on ≤ 9223372036854775807) (ha : a ≤ 9223372036854775807) (n s : ByteArray) (hss : s.size ≤ 1048576) :
    Calls Try.prog 7 #[.pointer (some ⟨pw, 0, none⟩), .agg #[.int .i64 4, .int .i64 on, .int .i64 a, .string n, .string s]] w fun e w' => e = .returned (.bool true) ∧ Good B (N + 1048577) (K + 1) pw w w' := by
  obtain ⟨alv, clv, hlv⟩ := owns_slice h.lrow
  subst hlv
  obtain ⟨gl, cl', hgl, _, hgls⟩ := h.lrow.form hpos
  injection hgl with hgl1 hgl2 hgl3
  subst hgl1
  obtain ⟨i, hi⟩ := Int.eq_ofNat_of_zero_le (pickI_bd on its.length (by omega)).1
  have hil : i < its.length := by have := (pickI_bd on its.length (by omega)).2; omega
  obtain ⟨it, hit⟩ := get_item hil
  have kl : ((its.length : Int) == 0) = false := beq_eq_false_iff_ne.2 (by omega)
  have bb : Below w.heap.size w (w.alloc (.cells #[.int .i64 4, .int .i64 on, .int .i64 a, .string n, .string s] 39)) := (Below.refl _ _).alloc (Nat.le_refl _) _
  have hbx : (w.alloc (.cells #[.int .i64 4, .int .i64 on, .int .i64 a, .string n, .string s] 39)).heap[w.heap.size]? = some (.cells #[.int .i64 4, .int .i64 on, .int .i64 a, .string n, .string s] 39 (0, 0)) := heap_alloc_last _ _
  have hs := h.later (bb.mono h.XW)
  have hpl := lt_of_heap h.head
  have c0 : (w.alloc (.cells #[.int .i64 4, .int .i64 on, .int .i64 a, .string n, .string s] 39)).cell? ⟨pw, 0, none⟩ = some (.slice (some ⟨gl, 0, none⟩) its.length clv) := by rw [dcell hs.head]; rfl
  have c1 : (w.alloc (.cells #[.int .i64 4, .int .i64 on, .int .i64 a, .string n, .string s] 39)).cell? ⟨w.heap.size, 1, none⟩ = some (.int .i64 on) := by rw [dcell hbx]; rfl
  have c2 : (w.alloc (.cells #[.int .i64 4, .int .i64 on, .int .i64 a, .string n, .string s] 39)).cell? ⟨gl, i * 2, none⟩ = some (.pointer (some ⟨it.p, 0, none⟩)) := by rw [hs.lrow.cellAt _ (by omega)]; exact pairCells_0 _ _ _ hit
  have c3 : (w.alloc (.cells #[.int .i64 4, .int .i64 on, .int .i64 a, .string n, .string s] 39)).cell? ⟨gl, i * 2 + 1, none⟩ = some (.pointer (some ⟨it.q, 0, none⟩)) := by rw [hs.lrow.cellAt _ (by omega)]; exact pairCells_1 _ _ _ hit
  have hin : (i : Int) < its.length := by omega
  have HP : Hid (pickI on its.length = i) := hi
  obtain ⟨t1, t2, t3, t4⟩ := two_boxes w (.cells #[.int .i64 4, .int .i64 on, .int .i64 a, .string n, .string s] 39) (.cells #[.pointer (some ⟨it.p, 0, none⟩), .pointer (some ⟨it.q, 0, none⟩)] 48)
  have T1 : Hid (((w.alloc (.cells #[.int .i64 4, .int .i64 on, .int .i64 a, .string n, .string s] 39)).alloc (.cells #[.pointer (some ⟨it.p, 0, none⟩), .pointer (some ⟨it.q, 0, none⟩)] 48)).drew.heap[w.heap.size]? = some (.cells #[.int .i64 4, .int .i64 on, .int .i64 a, .string n, .string s] 39 (0, 0))) := t1
  have T2 : Hid (((w.alloc (.cells #[.int .i64 4, .int .i64 on, .int .i64 a, .string n, .string s] 39)).alloc (.cells #[.pointer (some ⟨it.p, 0, none⟩), .pointer (some ⟨it.q, 0, none⟩)] 48)).drew.heap[w.heap.size + 1]? = some (.cells #[.pointer (some ⟨it.p, 0, none⟩), .pointer (some ⟨it.q, 0, none⟩)] 48 (0, 0))) := t2
  have T3 : Hid (Below w.heap.size w ((w.alloc (.cells #[.int .i64 4, .int .i64 on, .int .i64 a, .string n, .string s] 39)).alloc (.cells #[.pointer (some ⟨it.p, 0, none⟩), .pointer (some ⟨it.q, 0, none⟩)] 48)).drew) := t3.drew
  have HHN := hide hn0
  have HIT := hide hit
  have HH := hide h
  clear hi hgl2 hgl3 hn0 hit hs h hbx bb t1 t2 t3 t4
  go_enter Try.func7, Try.ntmps7
  go_wp2_with fail
  go_region_held3 (fun w' => w'.cell? ⟨pw, 0, none⟩ = some (.slice (some ⟨gl, 0, none⟩) its.length clv) ∧ w'.cell? ⟨w.heap.size, 1, none⟩ = some (.int .i64 on) ∧ w'.cell? ⟨gl, i * 2, none⟩ = some (.pointer (some ⟨it.p, 0, none⟩)) ∧ w'.cell? ⟨gl, i * 2 + 1, none⟩ = some (.pointer (some ⟨it.q, 0, none⟩))) (go_keep) (first
    | (go_at_call 13; refine (pick_any on its.length _ hon ⟨by omega, by omega⟩).mono ?_; rintro e w' ⟨rfl, rfl⟩; rw [unhide HP]))
  all_goals
    generalize ((w.alloc (.cells #[.int .i64 4, .int .i64 on, .int .i64 a, .string n, .string s] 39)).alloc (.cells #[.pointer (some ⟨it.p, 0, none⟩), .pointer (some ⟨it.q, 0, none⟩)] 48)).drew = W at T1 T2 T3 ⊢
    have hs := (unhide HH).later ((unhide T3).mono (unhide HH).XW)
    have a1 := hs.items i it (unhide HIT)
    have hBw : B ≤ w.heap.size := Nat.le_trans (unhide HH).BX (unhide HH).XW
    have hBW : B ≤ W.heap.size := Nat.le_trans hBw (unhide T3).size
    have x0 : W.cell? ⟨w.heap.size, 0, none⟩ = some (.int .i64 4) := by rw [dcell (unhide T1)]; rfl
    have x1 : W.cell? ⟨w.heap.size, 1, none⟩ = some (.int .i64 on) := by rw [dcell (unhide T1)]; rfl
    have x2 : W.cell? ⟨w.heap.size, 2, none⟩ = some (.int .i64 a) := by rw [dcell (unhide T1)]; rfl
    have x3 : W.cell? ⟨w.heap.size, 3, none⟩ = some (.string n) := by rw [dcell (unhide T1)]; rfl
    have x4 : W.cell? ⟨w.heap.size, 4, none⟩ = some (.string s) := by rw [dcell (unhide T1)]; rfl
    have p0 : W.cell? ⟨w.heap.size + 1, 0, none⟩ = some (.pointer (some ⟨it.p, 0, none⟩)) := by rw [dcell (unhide T2)]; rfl
    have p1 : W.cell? ⟨w.heap.size + 1, 1, none⟩ = some (.pointer (some ⟨it.q, 0, none⟩)) := by rw [dcell (unhide T2)]; rfl
    have HS := hide hs
    have HA := hide a1
    clear hs a1 c0 c1 c2 c3
    have HR := hide (rename_any B it.p it.S it.fs n s W N (by omega) (unhide HA).ok hBW (unhide HA).d)
    go_wp2_with (first
      | (go_at_call 18; refine (unhide HR).mono ?_; rintro e W1 ⟨rfl, fs1, d1, k1, f1⟩; have e1 := box_kept (unhide HA).d k1 (unhide T1) (by decide) (by decide); have e2 := box_kept (unhide HA).d k1 (unhide T2) (by decide) (by decide); have r1 := (unhide HA).r.kept k1 (fun k hk hf => foot_apart (unhide HA).d (unhide HA).r (by decide) (by decide) (by decide) (by decide) hf hk); have z3 : W1.cell? ⟨w.heap.size, 3, none⟩ = some (.string n) := (by rw [dcell e1]; rfl); have z4 : W1.cell? ⟨w.heap.size, 4, none⟩ = some (.string s) := (by rw [dcell e1]; rfl); have q1 : W1.cell? ⟨w.heap.size + 1, 1, none⟩ = some (.pointer (some ⟨it.q, 0, none⟩)) := (by rw [dcell e2]; rfl); have hBW1 : B ≤ W1.heap.size := Nat.le_trans hBW k1.size; clear e1 e2)
      | (go_at_call 19; refine (rrename_any B it.q it.S it.gs n s _ N (by omega) (unhide HA).ok hBW1 r1).mono ?_; rintro e W2 ⟨rfl, gs1, d2, k2, g1⟩))
    go_ret
    have d1' := d1.kept k2 (fun k hk hf => foot_apart d1 r1 (by decide) (by decide) (by decide) (by decide) hk hf)
    have hk12 : Kept (foot2 it) W W2 := (k1.mono (fun _ _ hh => .inl hh)).trans (k2.mono (g := foot2 it) (fun _ _ hh => .inr hh)) (fun _ _ hh => hh)
    have hup := (unhide HS).update (unhide HIT) hk12 d1' d2 f1 (fun k hk => (g1 k hk).elim .inl (fun x => .inr (by have := k1.size; omega))) (Nat.le_add_right N 1048577) (DOk_rename (unhide HA).ok n s)
    refine ⟨dret_bool (by simp), _, kn, _, _, _, hup, by simp; omega, by omega, fun x hx a n cap e => by have := unhide HHN x hx a n cap e; omega, ((unhide T3).mono hBw).trans (below_foot2 (unhide HA) hk12 hBW)⟩

set_option maxHeartbeats 4000000 in
theorem act_remove (h : Shelf B X N w pw its kn lv nv mv) (hN : N ≤ 1000000000000) (hi0 : its.length ≤ K) (hk0 : kn.length ≤ 4 * K) (hK : K ≤ 200000000) (hn0 : ∀ x ∈ kn, ∀ a n cap, x.1 = .slice a n cap → n ≤ N + 3) (hpos : 0 < its.length) (on a : Int) (hon : -9223372036854775808 ≤ on ∧ on ≤ 9223372036854775807) (ha : a ≤ 9223372036854775807) (n s : ByteArray) (hss : s.size ≤ 1048576) :
    Calls Try.prog 7 #[.pointer (some ⟨pw, 0, none⟩), .agg #[.int .i64 5, .int .i64 on, .int .i64 a, .string n, .string s]] w fun e w' => e = .returned (.bool true) ∧ Good B (N + 1048577) (K + 1) pw w w' := by
  obtain ⟨alv, clv, hlv⟩ := owns_slice h.lrow
  subst hlv
  obtain ⟨gl, cl', hgl, _, hgls⟩ := h.lrow.form hpos
  injection hgl with hgl1 hgl2 hgl3
  subst hgl1
  obtain ⟨i, hi⟩ := Int.eq_ofNat_of_zero_le (pickI_bd on its.length (by omega)).1
  have hil : i < its.length := by have := (pickI_bd on its.length (by omega)).2; omega
  obtain ⟨it, hit⟩ := get_item hil
  have kl : ((its.length : Int) == 0) = false := beq_eq_false_iff_ne.2 (by omega)
  have bb : Below w.heap.size w (w.alloc (.cells #[.int .i64 5, .int .i64 on, .int .i64 a, .string n, .string s] 39)) := (Below.refl _ _).alloc (Nat.le_refl _) _
  have hbx : (w.alloc (.cells #[.int .i64 5, .int .i64 on, .int .i64 a, .string n, .string s] 39)).heap[w.heap.size]? = some (.cells #[.int .i64 5, .int .i64 on, .int .i64 a, .string n, .string s] 39 (0, 0)) := heap_alloc_last _ _
  have hs := h.later (bb.mono h.XW)
  have hpl := lt_of_heap h.head
  have c0 : (w.alloc (.cells #[.int .i64 5, .int .i64 on, .int .i64 a, .string n, .string s] 39)).cell? ⟨pw, 0, none⟩ = some (.slice (some ⟨gl, 0, none⟩) its.length clv) := by rw [dcell hs.head]; rfl
  have c1 : (w.alloc (.cells #[.int .i64 5, .int .i64 on, .int .i64 a, .string n, .string s] 39)).cell? ⟨w.heap.size, 1, none⟩ = some (.int .i64 on) := by rw [dcell hbx]; rfl
  have c2 : (w.alloc (.cells #[.int .i64 5, .int .i64 on, .int .i64 a, .string n, .string s] 39)).cell? ⟨gl, i * 2, none⟩ = some (.pointer (some ⟨it.p, 0, none⟩)) := by rw [hs.lrow.cellAt _ (by omega)]; exact pairCells_0 _ _ _ hit
  have c3 : (w.alloc (.cells #[.int .i64 5, .int .i64 on, .int .i64 a, .string n, .string s] 39)).cell? ⟨gl, i * 2 + 1, none⟩ = some (.pointer (some ⟨it.q, 0, none⟩)) := by rw [hs.lrow.cellAt _ (by omega)]; exact pairCells_1 _ _ _ hit
  have hin : (i : Int) < its.length := by omega
  have HP : Hid (pickI on its.length = i) := hi
  obtain ⟨t1, t2, t3, t4⟩ := two_boxes w (.cells #[.int .i64 5, .int .i64 on, .int .i64 a, .string n, .string s] 39) (.cells #[.pointer (some ⟨it.p, 0, none⟩), .pointer (some ⟨it.q, 0, none⟩)] 48)
  have T1 : Hid (((w.alloc (.cells #[.int .i64 5, .int .i64 on, .int .i64 a, .string n, .string s] 39)).alloc (.cells #[.pointer (some ⟨it.p, 0, none⟩), .pointer (some ⟨it.q, 0, none⟩)] 48)).drew.heap[w.heap.size]? = some (.cells #[.int .i64 5, .int .i64 on, .int .i64 a, .string n, .string s] 39 (0, 0))) := t1
  have T2 : Hid (((w.alloc (.cells #[.int .i64 5, .int .i64 on, .int .i64 a, .string n, .string s] 39)).alloc (.cells #[.pointer (some ⟨it.p, 0, none⟩), .pointer (some ⟨it.q, 0, none⟩)] 48)).drew.heap[w.heap.size + 1]? = some (.cells #[.pointer (some ⟨it.p, 0, none⟩), .pointer (some ⟨it.q, 0, none⟩)] 48 (0, 0))) := t2
  have T3 : Hid (Below w.heap.size w ((w.alloc (.cells #[.int .i64 5, .int .i64 on, .int .i64 a, .string n, .string s] 39)).alloc (.cells #[.pointer (some ⟨it.p, 0, none⟩), .pointer (some ⟨it.q, 0, none⟩)] 48)).drew) := t3.drew
  have HHN := hide hn0
  have HIT := hide hit
  have HH := hide h
  clear hi hgl2 hgl3 hn0 hit hs h hbx bb t1 t2 t3 t4
  go_enter Try.func7, Try.ntmps7
  go_wp2_with fail
  go_region_held3 (fun w' => w'.cell? ⟨pw, 0, none⟩ = some (.slice (some ⟨gl, 0, none⟩) its.length clv) ∧ w'.cell? ⟨w.heap.size, 1, none⟩ = some (.int .i64 on) ∧ w'.cell? ⟨gl, i * 2, none⟩ = some (.pointer (some ⟨it.p, 0, none⟩)) ∧ w'.cell? ⟨gl, i * 2 + 1, none⟩ = some (.pointer (some ⟨it.q, 0, none⟩))) (go_keep) (first
    | (go_at_call 13; refine (pick_any on its.length _ hon ⟨by omega, by omega⟩).mono ?_; rintro e w' ⟨rfl, rfl⟩; rw [unhide HP]))
  all_goals
    generalize ((w.alloc (.cells #[.int .i64 5, .int .i64 on, .int .i64 a, .string n, .string s] 39)).alloc (.cells #[.pointer (some ⟨it.p, 0, none⟩), .pointer (some ⟨it.q, 0, none⟩)] 48)).drew = W at T1 T2 T3 ⊢
    have hs := (unhide HH).later ((unhide T3).mono (unhide HH).XW)
    have a1 := hs.items i it (unhide HIT)
    have hBw : B ≤ w.heap.size := Nat.le_trans (unhide HH).BX (unhide HH).XW
    have hBW : B ≤ W.heap.size := Nat.le_trans hBw (unhide T3).size
    have x0 : W.cell? ⟨w.heap.size, 0, none⟩ = some (.int .i64 5) := by rw [dcell (unhide T1)]; rfl
    have x1 : W.cell? ⟨w.heap.size, 1, none⟩ = some (.int .i64 on) := by rw [dcell (unhide T1)]; rfl
    have x2 : W.cell? ⟨w.heap.size, 2, none⟩ = some (.int .i64 a) := by rw [dcell (unhide T1)]; rfl
    have x3 : W.cell? ⟨w.heap.size, 3, none⟩ = some (.string n) := by rw [dcell (unhide T1)]; rfl
    have x4 : W.cell? ⟨w.heap.size, 4, none⟩ = some (.string s) := by rw [dcell (unhide T1)]; rfl
    have p0 : W.cell? ⟨w.heap.size + 1, 0, none⟩ = some (.pointer (some ⟨it.p, 0, none⟩)) := by rw [dcell (unhide T2)]; rfl
    have p1 : W.cell? ⟨w.heap.size + 1, 1, none⟩ = some (.pointer (some ⟨it.q, 0, none⟩)) := by rw [dcell (unhide T2)]; rfl
    have HS := hide hs
    have HA := hide a1
    clear hs a1 c0 c1 c2 c3
    have HR := hide (remove_any B it.p it.S it.fs n W N (by omega) (unhide HA).ok hBW (unhide HA).d)
    go_wp2_with (first
      | (go_at_call 20; refine (unhide HR).mono ?_; rintro e W1 ⟨rfl, fs1, d1, k1, f1⟩; have e1 := box_kept (unhide HA).d k1 (unhide T1) (by decide) (by decide); have e2 := box_kept (unhide HA).d k1 (unhide T2) (by decide) (by decide); have r1 := (unhide HA).r.kept k1 (fun k hk hf => foot_apart (unhide HA).d (unhide HA).r (by decide) (by decide) (by decide) (by decide) hf hk); have z3 : W1.cell? ⟨w.heap.size, 3, none⟩ = some (.string n) := (by rw [dcell e1]; rfl); have z4 : W1.cell? ⟨w.heap.size, 4, none⟩ = some (.string s) := (by rw [dcell e1]; rfl); have q1 : W1.cell? ⟨w.heap.size + 1, 1, none⟩ = some (.pointer (some ⟨it.q, 0, none⟩)) := (by rw [dcell e2]; rfl); have hBW1 : B ≤ W1.heap.size := Nat.le_trans hBW k1.size; clear e1 e2)
      | (go_at_call 21; refine (rremove_any B it.q it.S it.gs n _ N (by omega) (unhide HA).ok hBW1 r1).mono ?_; rintro e W2 ⟨rfl, gs1, d2, k2, g1⟩))
    go_ret
    have d1' := d1.kept k2 (fun k hk hf => foot_apart d1 r1 (by decide) (by decide) (by decide) (by decide) hk hf)
    have hk12 : Kept (foot2 it) W W2 := (k1.mono (fun _ _ hh => .inl hh)).trans (k2.mono (g := foot2 it) (fun _ _ hh => .inr hh)) (fun _ _ hh => hh)
    have hup := (unhide HS).update (unhide HIT) hk12 d1' d2 f1 (fun k hk => (g1 k hk).elim .inl (fun x => .inr (by have := k1.size; omega))) (Nat.le_add_right N 1048577) (DOk_remove (unhide HA).ok n)
    refine ⟨dret_bool (by simp), _, kn, _, _, _, hup, by simp; omega, by omega, fun x hx a n cap e => by have := unhide HHN x hx a n cap e; omega, ((unhide T3).mono hBw).trans (below_foot2 (unhide HA) hk12 hBW)⟩

end
end Go.Proofs.Ytndhpgciopcncaa
