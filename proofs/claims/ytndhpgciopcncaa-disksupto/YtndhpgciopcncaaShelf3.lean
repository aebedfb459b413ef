/- Walk: keeps. -/
import Derived.Test.YtndhpgciopcncaaShelf2
namespace Go.Proofs.Ytndhpgciopcncaa
open Go.RowKit
set_option linter.unusedVariables false

/-- a marked list of k. -/
def Mk (X : Nat) (w : World) (u : Value) (k : Nat) (m : ByteArray) : Prop := w.ownsRow X 9 1 u k (nmCells (List.replicate k m))
theorem Mk.alloc {X : Nat} {w : World} {u : Value} {k : Nat} {m : ByteArray} (h : Mk X w u k m) (o : Obj) : Mk X (w.alloc o) u k m := World.ownsRow.alloc h o
theorem repl_snoc (n j : Nat) (m : ByteArray) : nmCells (List.replicate n m) ++ nmCells (List.replicate j m) = nmCells (List.replicate (n + j) m) := by
  rw [← nmCells_append, List.replicate_append_replicate]
theorem Mk.app {X n k j cap : Nat} {w w' : World} {u l : Value} {g : Nat} {m : ByteArray} (hu : Mk X w u k m) (hnew : Mk X w' (.slice (some ⟨g, 0, none⟩) j cap) j m) (hkj : k ≤ j) (hgr : w.grownBy w' l.ownBlock) (hD : l = .slice (some ⟨g, 0, none⟩) n cap ∨ (g = w.heap.size ∧ w.grownBy w' none))
    (hs : ∀ gu ku cu nl cl, u = .slice (some ⟨gu, 0, none⟩) ku cu → l = .slice (some ⟨gu, 0, none⟩) nl cl → cu = cl) : Mk X w' u k m := by
  rcases hu.2 with ⟨rfl, rfl⟩ | ⟨gu, cu, cur, rfl, r⟩
  · exact owns_nil _ _ _ _
  · exact marked_append hu hnew hkj hgr hD (fun gl cl nl hl e => hs gu _ cu nl cl rfl (e ▸ hl))

theorem Mk.of1 {X n : Nat} {w : World} {v : Value} {m : ByteArray} (h : w.ownsRow X 9 1 v (n + 1) (nmCells (List.replicate n m) ++ nmCells [m])) : Mk X w v (n + 1) m := by
  rw [show nmCells [m] = nmCells (List.replicate 1 m) from rfl, repl_snoc] at h; exact h
theorem Mk.of2 {X n : Nat} {w : World} {v : Value} {m : ByteArray} (h : w.ownsRow X 9 1 v (n + 2) (nmCells (List.replicate n m) ++ nmCells [m, m])) : Mk X w v (n + 2) m := by
  rw [show nmCells [m, m] = nmCells (List.replicate 2 m) from rfl, repl_snoc] at h; exact h
theorem Mk.of3 {X n : Nat} {w : World} {v : Value} {m : ByteArray} (h : w.ownsRow X 9 1 v (n + 3) (nmCells (List.replicate n m) ++ nmCells [m, m, m])) : Mk X w v (n + 3) m := by
  rw [show nmCells [m, m, m] = nmCells (List.replicate 3 m) from rfl, repl_snoc] at h; exact h
theorem size_set (w : World) (a : Addr) (v : Value) : (w.setCell a v).heap.size = w.heap.size := by simp [World.setCell]
theorem heap_last_set (w : World) (a : Addr) (v : Value) (o : Obj) : ((w.setCell a v).alloc o).heap[w.heap.size]? = some o := by
  have := heap_alloc_last (w.setCell a v) o; rwa [size_set] at this
theorem one_slices (a b c d : Option Addr) (a1 a2 b1 b2 c1 c2 d1 d2 : Nat) : ∀ u ∈ [Value.slice a a1 a2, .slice b b1 b2, .slice c c1 c2, .slice d d1 d2], u.oneCell' = true := by
  intro u hu; simp at hu; rcases hu with rfl | rfl | rfl | rfl <;> rfl
theorem Shelf.pw_n {B X N : Nat} {w : World} {pw : Nat} {its : List Item} {kn : List (Value × ByteArray)} {lv nv mv : Value} (h : Shelf B X N w pw its kn lv nv mv) : nv.ownBlock ≠ some pw := fun e => by
  obtain ⟨c, hc⟩ := owns_type h.nrow e; exact absurd (block_type h.head hc) (by decide)
theorem Shelf.pw_m {B X N : Nat} {w : World} {pw : Nat} {its : List Item} {kn : List (Value × ByteArray)} {lv nv mv : Value} (h : Shelf B X N w pw its kn lv nv mv) : mv.ownBlock ≠ some pw := fun e => by
  obtain ⟨c, hc⟩ := owns_type h.mrow e; exact absurd (block_type h.head hc) (by decide)
theorem Shelf.n_m {B X N : Nat} {w : World} {pw : Nat} {its : List Item} {kn : List (Value × ByteArray)} {lv nv mv : Value} (h : Shelf B X N w pw its kn lv nv mv) {k : Nat} (h1 : nv.ownBlock = some k) (h2 : mv.ownBlock = some k) : False := by
  obtain ⟨c, hc⟩ := owns_type h.nrow h1; obtain ⟨c', hc'⟩ := owns_type h.mrow h2; exact absurd (block_type hc hc') (by decide)

/-- behind the append to the names, and the store of it. -/
theorem Shelf.afterN {B X N : Nat} {w wn : World} {pw : Nat} {its : List Item} {kn : List (Value × ByteArray)} {lv nv mv : Value} (h : Shelf B X N w pw its kn lv nv mv) {o : Obj} (rn : (w.alloc o).grownBy wn nv.ownBlock) (V : Value) :
    wn.heap[pw]? = some (.cells #[lv, nv, mv] 36 (0, 0)) ∧ (wn.setCell ⟨pw, 1, none⟩ V).heap[pw]? = some (.cells #[lv, V, mv] 36 (0, 0)) ∧ (wn.setCell ⟨pw, 1, none⟩ V).ownsRow B 9 1 mv kn.length (nmCells (kn.map (·.2))) ∧ Kept (fun k => k = pw ∨ nv.ownBlock = some k) w (wn.setCell ⟨pw, 1, none⟩ V) := by
  have hp : pw < w.heap.size := lt_of_heap h.head
  have h1 : wn.heap[pw]? = some (.cells #[lv, nv, mv] 36 (0, 0)) := ((rn.block pw (by rw [size_first]; omega) (fun e => h.pw_n e.symm)).trans (Below.heap_alloc _ _ _ hp)).trans h.head
  refine ⟨h1, by rw [dset h1]; rfl, ?_, (((Kept.refl _ _).alloc o).grown rn (fun k hk _ => .inr hk)).setCell (fun _ => .inl rfl) _⟩
  have hm : wn.ownsRow B 9 1 mv kn.length (nmCells (kn.map (·.2))) := by
    refine (h.mrow.alloc o).kept rn ?_
    cases hmv : mv.ownBlock with
    | none => exact .inl rfl
    | some k => exact .inr (fun e => h.n_m e.symm hmv)
  exact owns_kept hm ((Kept.refl (fun k => k = pw) wn).setCell (fun _ => rfl) _) (fun k hk hkp => h.pw_m (hkp ▸ hk))

theorem share_self {u : Value} : ∀ gu ku cu nl cl, u = .slice (some ⟨gu, 0, none⟩) ku cu → u = .slice (some ⟨gu, 0, none⟩) nl cl → cu = cl := by
  intro gu ku cu nl cl h1 h2; rw [h1] at h2; injection h2
theorem share_of {X n j H : Nat} {w0 w1 w2 : World} {l : Value} {ga capa : Nat} {m : ByteArray} (hv : Mk X w0 l n m) (hD : l = .slice (some ⟨ga, 0, none⟩) n capa ∨ (ga = H ∧ w1.grownBy w2 none)) (hH : w0.heap.size ≤ H) :
    ∀ gu ku cu nl cl, (Value.slice (some ⟨ga, 0, none⟩) j capa) = .slice (some ⟨gu, 0, none⟩) ku cu → l = .slice (some ⟨gu, 0, none⟩) nl cl → cu = cl := by
  intro gu ku cu nl cl h1 h2
  injection h1 with h1a _ h1c
  injection h1a with h1a
  injection h1a with h1a
  subst h1a
  subst h1c
  rcases hD with hD | ⟨hD, _⟩
  · rw [hD] at h2; injection h2
  · have := (World.ownsRow.lt hv ga (by rw [h2]; rfl)).2; omega
theorem below_app {X : Nat} {w w' : World} {l : Value} {n : Nat} {m : ByteArray} {o : Obj} (hv : Mk X w l n m) (hX : X ≤ w.heap.size) (hg : (w.alloc o).grownBy w' l.ownBlock) : Below X w w' :=
  ((Below.refl _ _).alloc hX _).grown hg (by rw [size_first]; omega) (fun k hk => (World.ownsRow.lt hv k hk).1)

set_option maxHeartbeats 4000000 in
theorem keeps_any {B X N : Nat} {w : World} {pw : Nat} {its : List Item} {kn : List (Value × ByteArray)} {lv nv mv : Value} (h : Shelf B X N w pw its kn lv nv mv) (ls : List ByteArray) (l : Value) (hl : w.ownsRow X 9 1 l ls.length (nmCells ls)) (hkn : kn.length ≤ 1000000000) (hls : ls.length ≤ 1000000000000) :
    Calls Try.prog 37 #[.pointer (some ⟨pw, 0, none⟩), l] w fun e w' => e = .returned (.tuple #[]) ∧ ∃ nv' mv' four, Shelf B w'.heap.size N w' pw its (kn ++ four) lv nv' mv' ∧ four.length = 4 ∧ (∀ x ∈ four, ∀ a n cap, x.1 = .slice a n cap → n ≤ ls.length + 3) ∧ Below B w w' := by
  obtain ⟨an, capn, hnv⟩ := owns_slice h.nrow
  obtain ⟨am, capm, hmv⟩ := owns_slice h.mrow
  obtain ⟨al, capl, hll⟩ := owns_slice hl
  subst hnv
  subst hmv
  subst hll
  have c1 : w.cell? ⟨pw, 1, none⟩ = some (.slice an kn.length capn) := by rw [dcell h.head]; rfl
  go_enter Try.func37, Try.ntmps37
  go_wp2
  go_loop [4, 5] (fun x y => ∃ (k : Nat), k ≤ kn.length ∧ y = .int .i64 k ∧ x = .string (markS k)) (fun _ y => kn.length - (intOf y).toNat)
  case atStart => exact ⟨0, Nat.zero_le _, rfl, rfl⟩
  case round =>
    obtain ⟨k, hk, rfl, rfl⟩ := hrel
    by_cases hlt : k < kn.length
    · have hadd := fun wx => run_string_add_sum (P := Try.prog) (w := wx) (markS k) ⟨#[43]⟩ (by rw [markS_size]; show 4 + k + 1 ≤ _; omega)
      go_wp2
      go_round
      case rel => exact ⟨k + 1, by omega, by go_num, rfl⟩
      case measure => simp [intOf]; omega
    · have e : k = kn.length := by omega
      subst e
      generalize hm : markS kn.length = m
      clear hm hlt hk
      go_wp2
      go_loopw [6] (fun y wr => ∃ (k : Nat), k ≤ ls.length ∧ y = .int .i64 k ∧ wr.ownsRow X 9 1 (.slice al ls.length capl) ls.length (nmCells (overS m ls k)) ∧ Below X w wr) (fun y _ => ls.length - (intOf y).toNat)
      case atStart => exact ⟨0, Nat.zero_le _, rfl, by rw [overS_zero]; exact hl, Below.refl _ _⟩
      case round =>
        obtain ⟨k, hk, rfl, hv, hb⟩ := hrel
        by_cases hlt : k < ls.length
        · obtain ⟨g, cap', hv', hgX, -⟩ := hv.form (by omega)
          injection hv' with hv1 hv2 hv3
          subst hv1
          obtain ⟨x, hx⟩ := overS_get m ls k hlt
          have x0 : wr.cell? ⟨g, k, none⟩ = some (.string x) := by rw [hv.cellAt _ (by omega)]; exact nmCells_get hx
          have xf := hv.frozenAt k
          have hkn' : (k : Int) < ls.length := by omega
          obtain ⟨u1, -⟩ := hv.stored k (.string m)
          rw [← nmCells_set, ← overS_succ m ls k hlt] at u1
          have U1 := hide u1
          clear hv2 hv3 hx u1
          go_wp2
          go_roundw
          case rel => exact ⟨k + 1, by omega, by go_num, unhide U1, hb.setCell (p := ⟨g, k, none⟩) hgX _⟩
          case measure => simp [intOf]; omega
        · have e : k = ls.length := by omega
          subst e
          rw [overS_all] at hv
          have hXr : X ≤ wr.heap.size := Nat.le_trans h.XW hb.size
          have hs := h.later hb
          have hone : ∀ u ∈ nmCells [m], u.oneCell' = true := nmCells_one _
          have hone2 : ∀ u ∈ nmCells [m, m], u.oneCell' = true := nmCells_one _
          have hone3 : ∀ u ∈ nmCells [m, m, m], u.oneCell' = true := nmCells_one _
          have hone4 : ∀ u ∈ nmCells [m, m, m, m], u.oneCell' = true := nmCells_one _
          have hv : Mk X wr (.slice al ls.length capl) ls.length m := hv
          clear c1 hlt hk
          go_wp2_with (first
            | (at_builtin; refine wpList_append_where rfl _ _ 34 rfl X 9 _ 16 Try.underlying34 Try.infoString rfl (.slice al ls.length capl) ls.length (nmCells (List.replicate ls.length m)) rfl (Mk.alloc hv _) wr.heap.size 1 (nmCells [m]) rfl (heap_alloc_last _ _) rfl hone (by decide) ?hna (by decide) ?hba ?_; (case hna => omega); (case hba => (rw [size_first]; omega)); intro ga capa wa oa ra Da lta; have mA : Mk X wa (.slice (some ⟨ga, 0, none⟩) (ls.length + 1) capa) (ls.length + 1) m := Mk.of1 oa; have mL1 : Mk X wa (.slice al ls.length capl) ls.length m := (Mk.alloc hv _).app mA (by omega) ra Da share_self; have bA : Below X wr wa := below_app hv hXr ra; have zA : X ≤ wa.heap.size := Nat.le_trans hXr bA.size)
            | (at_builtin; refine wpList_append_where rfl _ _ 34 rfl X 9 _ 16 Try.underlying34 Try.infoString rfl (.slice al ls.length capl) ls.length (nmCells (List.replicate ls.length m)) rfl (Mk.alloc mL1 _) wa.heap.size 2 (nmCells [m, m]) rfl (heap_alloc_last _ _) rfl hone2 (by decide) ?hnb (by decide) ?hbb ?_; (case hnb => omega); (case hbb => (rw [size_first]; omega)); intro gb capb wb ob rb Db ltb; have mB : Mk X wb (.slice (some ⟨gb, 0, none⟩) (ls.length + 2) capb) (ls.length + 2) m := Mk.of2 ob; have mL2 : Mk X wb (.slice al ls.length capl) ls.length m := (Mk.alloc mL1 _).app mB (by omega) rb Db share_self; have mA2 : Mk X wb (.slice (some ⟨ga, 0, none⟩) (ls.length + 1) capa) (ls.length + 1) m := (Mk.alloc mA _).app mB (by omega) rb Db (share_of hv Da (by rw [size_first]; omega)); have bB : Below X wa wb := below_app mL1 zA rb; have zB : X ≤ wb.heap.size := Nat.le_trans zA bB.size)
            | (at_builtin; refine wpList_append_where rfl _ _ 34 rfl X 9 _ 16 Try.underlying34 Try.infoString rfl (.slice al ls.length capl) ls.length (nmCells (List.replicate ls.length m)) rfl (Mk.alloc mL2 _) wb.heap.size 3 (nmCells [m, m, m]) rfl (heap_alloc_last _ _) rfl hone3 (by decide) ?hnc (by decide) ?hbc ?_; (case hnc => omega); (case hbc => (rw [size_first]; omega)); intro gc capc wc oc rc Dc ltc; have mC : Mk X wc (.slice (some ⟨gc, 0, none⟩) (ls.length + 3) capc) (ls.length + 3) m := Mk.of3 oc; have mL3 : Mk X wc (.slice al ls.length capl) ls.length m := (Mk.alloc mL2 _).app mC (by omega) rc Dc share_self; have mA3 : Mk X wc (.slice (some ⟨ga, 0, none⟩) (ls.length + 1) capa) (ls.length + 1) m := (Mk.alloc mA2 _).app mC (by omega) rc Dc (share_of hv Da (by rw [size_first]; omega)); have mB3 : Mk X wc (.slice (some ⟨gb, 0, none⟩) (ls.length + 2) capb) (ls.length + 2) m := (Mk.alloc mB _).app mC (by omega) rc Dc (share_of mL1 Db (by rw [size_first]; omega)); have bC : Below X wb wc := below_app mL2 zB rc; have zC : X ≤ wc.heap.size := Nat.le_trans zB bC.size; have hsc := ((hs.later bA).later bB).later bC; have e1 : wc.cell? ⟨pw, 1, none⟩ = some (.slice an kn.length capn) := (by rw [dcell hsc.head]; rfl))
            | (at_builtin; refine wpList_append_where rfl _ _ 33 rfl B 34 _ 24 Try.underlying33 Try.infoStrings rfl (.slice an kn.length capn) kn.length (kn.map (·.1)) rfl (hsc.nrow.alloc _) wc.heap.size 4 [(.slice al ls.length capl), (.slice (some ⟨ga, 0, none⟩) (ls.length + 1) capa), (.slice (some ⟨gb, 0, none⟩) (ls.length + 2) capb), (.slice (some ⟨gc, 0, none⟩) (ls.length + 3) capc)] rfl (heap_alloc_last _ _) rfl (one_slices _ _ _ _ _ _ _ _ _ _ _ _) (by decide) ?hnn (by decide) ?hbn ?_; (case hnn => omega); (case hbn => (rw [size_first]; have := hsc.BX; omega)); intro gn capn2 wn on rn Dn ltn; obtain ⟨q1, q2, q3, q4⟩ := hsc.afterN rn (.slice (some ⟨gn, 0, none⟩) (kn.length + 4) capn2); have n1 : wn.cell? ⟨pw, 1, none⟩ = some (.slice an kn.length capn) := (by rw [dcell q1]; rfl); have n1f : wn.frozen? ⟨pw, 1, none⟩ = false := dfree q1 1; have n2 : (wn.setCell ⟨pw, 1, none⟩ (.slice (some ⟨gn, 0, none⟩) (kn.length + 4) capn2)).cell? ⟨pw, 2, none⟩ = some (.slice am kn.length capm) := (by rw [dcell q2]; rfl))
            | (at_builtin; refine wpList_append_where rfl _ _ 34 rfl B 9 _ 16 Try.underlying34 Try.infoString rfl (.slice am kn.length capm) kn.length (nmCells (kn.map (·.2))) rfl (q3.alloc _) wn.heap.size 4 (nmCells [m, m, m, m]) rfl (heap_last_set _ _ _ _) rfl hone4 (by decide) ?hnm (by decide) ?hbm ?_; (case hnm => omega); (case hbm => (rw [size_first, size_set]; have := hsc.BX; have := q4.size; rw [size_set] at this; omega)); intro gm capm2 wm om rm Dm ltm; have p0 : wm.heap[pw]? = some (.cells #[lv, (.slice (some ⟨gn, 0, none⟩) (kn.length + 4) capn2), .slice am kn.length capm] 36 (0, 0)) := ((rm.block pw (by rw [size_first]; have := lt_of_heap q2; omega) (fun e => hsc.pw_m e.symm)).trans (Below.heap_alloc _ _ _ (lt_of_heap q2))).trans q2; have n3 : wm.cell? ⟨pw, 2, none⟩ = some (.slice am kn.length capm) := (by rw [dcell p0]; rfl); have n3f : wm.frozen? ⟨pw, 2, none⟩ = false := dfree p0 2)
            | fail)
          go_end0
          have hw1 : wc.heap.size ≤ wn.heap.size := by have := q4.size; rw [size_set] at this; exact this
          have hgn : gn ≠ pw := fun e => by
            subst e; obtain ⟨c, hc⟩ := owns_type on (k := gn) rfl; exact absurd (block_type q1 hc) (by decide)
          have on1 : (wn.setCell ⟨pw, 1, none⟩ (.slice (some ⟨gn, 0, none⟩) (kn.length + 4) capn2)).ownsRow B 34 1 (.slice (some ⟨gn, 0, none⟩) (kn.length + 4) capn2) (kn.length + 4) (kn.map (·.1) ++ [(.slice al ls.length capl), (.slice (some ⟨ga, 0, none⟩) (ls.length + 1) capa), (.slice (some ⟨gb, 0, none⟩) (ls.length + 2) capb), (.slice (some ⟨gc, 0, none⟩) (ls.length + 3) capc)]) :=
            owns_kept on ((Kept.refl (fun k => k = pw) wn).setCell (fun _ => rfl) _) (fun k hk hkp => by simp [Value.ownBlock] at hk; exact hgn (hk.trans hkp))
          have on2 : wm.ownsRow B 34 1 (.slice (some ⟨gn, 0, none⟩) (kn.length + 4) capn2) (kn.length + 4) (kn.map (·.1) ++ [(.slice al ls.length capl), (.slice (some ⟨ga, 0, none⟩) (ls.length + 1) capa), (.slice (some ⟨gb, 0, none⟩) (ls.length + 2) capb), (.slice (some ⟨gc, 0, none⟩) (ls.length + 3) capc)]) := (on1.alloc _).kept rm (.inr (fun e => by
            obtain ⟨c, hc⟩ := owns_type on1 (k := gn) rfl
            obtain ⟨c', hc'⟩ := owns_type q3 (k := gn) (e.symm.trans rfl)
            exact absurd (block_type hc hc') (by decide)))
          have hgm : gm ≠ pw := fun e => by
            subst e; obtain ⟨c, hc⟩ := owns_type om (k := gm) rfl; exact absurd (block_type p0 hc) (by decide)
          have ks : Kept (fun k => k = pw) wm (wm.setCell ⟨pw, 2, none⟩ (.slice (some ⟨gm, 0, none⟩) (kn.length + 4) capm2)) := (Kept.refl (fun k => k = pw) wm).setCell (fun _ => rfl) _
          have on3 := owns_kept on2 ks (fun k hk hkp => by simp [Value.ownBlock] at hk; exact hgn (hk.trans hkp))
          have om3 := owns_kept om ks (fun k hk hkp => by simp [Value.ownBlock] at hk; exact hgm (hk.trans hkp))
          have hk0 : Kept (fun k => k = pw ∨ (Value.slice an kn.length capn).ownBlock = some k ∨ (Value.slice am kn.length capm).ownBlock = some k) wc (wm.setCell ⟨pw, 2, none⟩ (.slice (some ⟨gm, 0, none⟩) (kn.length + 4) capm2)) :=
            (((q4.mono (fun _ _ hh => hh.elim .inl (fun x => .inr (.inl x)))).alloc _).grown rm (fun k hk _ => .inr (.inr hk))).setCell (fun _ => .inl rfl) _
          have hlow : ∀ k, (k = pw ∨ (Value.slice an kn.length capn).ownBlock = some k ∨ (Value.slice am kn.length capm).ownBlock = some k) → B ≤ k ∧ k < X := by
            intro k hk
            rcases hk with rfl | hk | hk
            · exact ⟨hsc.base, hsc.pX⟩
            · exact ⟨(hsc.nrow.lt k hk).1, hsc.nX k hk⟩
            · exact ⟨(hsc.mrow.lt k hk).1, hsc.mX k hk⟩
          have hDm : ∀ k, (Value.ownBlock (.slice (some ⟨gm, 0, none⟩) (kn.length + 4) capm2)) = some k → (Value.slice am kn.length capm).ownBlock = some k ∨ wc.heap.size ≤ k := by
            intro k hk
            simp [Value.ownBlock] at hk
            subst hk
            rcases Dm with Dm | ⟨Dm, _⟩
            · left; rw [Dm]; rfl
            · right; rw [size_first, size_set] at Dm; omega
          have mk : ∀ (u : Value) (k : Nat), Mk X wc u k m → Marked B (wm.setCell ⟨pw, 2, none⟩ (.slice (some ⟨gm, 0, none⟩) (kn.length + 4) capm2)) u m ∧ ∀ q, u.ownBlock = some q → (Value.ownBlock (.slice (some ⟨gm, 0, none⟩) (kn.length + 4) capm2)) ≠ some q := by
            intro u k hu
            refine ⟨⟨k, owns_base (owns_kept hu hk0 (fun q hq hh => ?_)) hsc.BX⟩, fun q hq hq2 => ?_⟩
            · have := (World.ownsRow.lt hu q hq).1; have := (hlow q hh).2; omega
            · have h1 := World.ownsRow.lt hu q hq
              rcases hDm q hq2 with hh | hh
              · have := hsc.mX q hh; omega
              · omega
          refine ⟨rfl, (.slice (some ⟨gn, 0, none⟩) (kn.length + 4) capn2), (.slice (some ⟨gm, 0, none⟩) (kn.length + 4) capm2), [((.slice al ls.length capl), m), ((.slice (some ⟨ga, 0, none⟩) (ls.length + 1) capa), m), ((.slice (some ⟨gb, 0, none⟩) (ls.length + 2) capb), m), ((.slice (some ⟨gc, 0, none⟩) (ls.length + 3) capc), m)], ?_, rfl, ?_, ?_⟩
          · refine hsc.more (hk0.mono (fun k _ hh => hh.elim .inl (fun x => .inr (x.elim .inl (fun y => .inr (.inl y)))))) (by rw [dset p0]; rfl) ?_ ?_ (fun k hk => (hDm k hk).elim .inl (fun x => .inr (by omega))) ?_
            · simpa using on3
            · have := om3
              rw [← nmCells_append] at this
              simpa using this
            · intro x hx
              simp only [List.mem_cons, List.not_mem_nil, or_false] at hx
              rcases hx with rfl | rfl | rfl | rfl
              · exact mk _ _ mL3
              · exact mk _ _ mA3
              · exact mk _ _ mB3
              · exact mk _ _ mC
          · intro x hx a n cap hxe
            simp only [List.mem_cons, List.not_mem_nil, or_false] at hx
            rcases hx with rfl | rfl | rfl | rfl <;> (injection hxe; omega)
          · exact ((((hb.mono h.BX).trans (bA.mono h.BX)).trans (bB.mono h.BX)).trans (bC.mono h.BX)).trans (hk0.below (by have := hsc.BX; omega) (fun k hk => (hlow k hk).1))
end Go.Proofs.Ytndhpgciopcncaa
