import Derived.Test.YtpbimdkclnekeaaGreatTRef4

namespace Go.Proofs.YtpbimdkclnekeaaGreat
open Value (int)
open IntKind (i64)
open Go.RowKit
set_option linter.unusedVariables false
theorem Tryz.infoSegment : (Tryz.prog.info? 232).map (fun i => (i.zero, i.size, i.bytes)) = some (some (.agg #[int i64 0, int i64 0, int i64 0]), 3, 24) := by kernel_rfl
theorem flat_row {α : Type} {f : α -> List Value} {w : World} {base : Nat} {e : TypeId} {k : Nat} {v : Value} {l : List α} {a : α} (h : w.ownsRow base e k v (l.length + 1) (l.flatMap f ++ f a)) : w.ownsRow base e k v (l ++ [a]).length ((l ++ [a]).flatMap f) := by
 rw [flat_snoc, List.length_append]; exact h
theorem push_sg {w : World} {ops : Array Oper} {rest : List Oper} {o : Oper} {a : Act} {Q : Exit -> Act -> World -> Prop} (hgd : o.guard = none) (s x : Operand)
  (ho : o.op = .call { callee := .builtin .append, args := #[s, x], argTypes := #[187, 187] }) (base : Nat) (v : Value) (l : List Sg) (f : Sg) (hs : a.eval s = v) (hown : w.ownsRow base 232 3 v l.length (l.flatMap sgV))
  (B1 : Nat) (hx : a.eval x = .slice (some ⟨B1, 0, none⟩) 1 1) (hB1 : w.heap[B1]? = some (.cells #[int i64 f.t, int i64 f.ser, int i64 f.win] 232 (0, 0))) (hl : l.length <= 1099511627776) (hbase : base <= w.heap.size)
  (h : ∀ g cap w', w'.ownsRow base 232 3 (.slice (some ⟨g, 0, none⟩) (l.length + 1) cap) (l ++ [f]).length ((l ++ [f]).flatMap sgV) -> w'.ownsRow base 232 3 v l.length (l.flatMap sgV) -> w.grownBy w' v.ownBlock -> (v.ownBlock = some g \/ g = w.heap.size) -> g < w'.heap.size -> wpList Tryz.prog ops Q rest (a.put o.dst (.slice (some ⟨g, 0, none⟩) (l.length + 1) cap)) w') : wpList Tryz.prog ops Q (o :: rest) a w :=
 zbg hgd s x 187 ho base 232 _ 3 24 Tryz.underlying187 Tryz.infoSegment rfl (by decide) v l.length (l.flatMap sgV) hs hown ⟨B1, 0, none⟩ 1 1 [int i64 f.t, int i64 f.ser, int i64 f.win] hx rfl
  (World.news_of_block (cs := #[int i64 f.t, int i64 f.ser, int i64 f.win]) hB1) (by intro u hu; simp at hu; rcases hu with rfl | rfl | rfl <;> rfl) (by decide) (by simp only [maxLen]; omega) (by omega) hbase
  fun g cap w' h1 h2 h3 h4 h5 => h g cap w' (flat_row h1) h2 h3 h4 h5
theorem addSg_in {l : List Sg} {s : Sg} (h : s ∈ l) : addSg l s = l := by simp [addSg, h]
theorem addSg_out {l : List Sg} {s : Sg} (h : ¬ s ∈ l) : addSg l s = l ++ [s] := by simp [addSg, h]
theorem segsTier_zero (c : Cf) (t : Int) (nums : List Nm) (l : List Sg) : zcn c t (nums.take 0) l = l := by simp [zcn]
theorem zey (s : Sg) (l : List Sg) : (memB s l = true /\ s ∈ l) \/ (memB s l = false /\ ¬ s ∈ l) := by
 by_cases h : s ∈ l
 ·exact .inl ⟨memB_true h, h⟩
 ·exact .inr ⟨memB_false h, h⟩
set_option maxHeartbeats 2000000 in
theorem segments_any {B : Nat} {w : World} {p : Nat} {m : RM} {tv nv pv gv kv : Value} (h : zbk B w p m tv nv pv gv kv) (hc : m.c.ok) (hnl : m.nums.length <= 1000000000) (hno : ∀ x ∈ m.nums, x.ok) :
  Calls Tryz.prog 162 #[.pointer (some ⟨p, 0, none⟩)] w fun e w' => ∃ v, e = .returned v /\ w'.ownsRow w.heap.size 232 3 v (zax m.c m.nums).length ((zax m.c m.nums).flatMap sgV) /\ Below w.heap.size w w' := by
 have H := zab h
 obtain ⟨an, cn, hnv⟩ := zah h.nrow
 subst hnv
 obtain ⟨at_, ct, htv⟩ := zah h.trow
 subst htv
 have hn4 := hc.n4
 have hpw := h.lt
 clear h
 go_enter Tryz.func162, Tryz.ntmps162
 go_wp2_with fail
 go_loopw [3, 4, 5, 6, 7] (fun v y _ _ _ wr => ∃ (k : Nat), k <= m.c.n + 1 /\ y = int i64 ((k : Int) - 1) /\ wr.ownsRow w.heap.size 232 3 v (zfk m.c m.nums k).length ((zfk m.c m.nums k).flatMap sgV) /\ Below w.heap.size w wr) (fun _ y _ _ _ _ => m.c.n + 1 - (intOf y + 1).toNat)
 case atStart => exact ⟨0, Nat.zero_le _, rfl, World.ownsRow_nil _ _ _ _, Below.refl _ _⟩
 case round =>
  obtain ⟨k, hk, rfl, hv, hb⟩ := hrel
  have hr := (ud H).later hb
  have hpr := hr.lt
  obtain ⟨c0, c1, c2, c3, c4, c5, c6⟩ := hr.conf
  clear c0 c1 c2 c3 c4 c5
  by_cases hlt : k < m.c.n + 1
  ·have hkn : (k : Int) - 1 < m.c.n := by omega
   have hk1 : -1 <= (k : Int) - 1 := by omega
   obtain ⟨a0, cap0, hv0⟩ := zah hv
   have HV := zab hv
   have HB := zab hb
   clear hr hv hb
   subst hv0
   go_wp2_with fail
   go_loopw [3, 5, 6, 7] (fun v y _ _ wq => ∃ (i : Nat), i <= m.nums.length /\ y = int i64 i /\ wq.ownsRow w.heap.size 232 3 v (zcn m.c ((k : Int) - 1) (m.nums.take i) (zfk m.c m.nums k)).length ((zcn m.c ((k : Int) - 1) (m.nums.take i) (zfk m.c m.nums k)).flatMap sgV) /\ Below w.heap.size w wq) (fun _ y _ _ _ => m.nums.length - (intOf y).toNat)
   case atStart => exact ⟨0, Nat.zero_le _, rfl, by rw [segsTier_zero]; exact ud HV, ud HB⟩
   case round =>
    clear HV HB c6 hpr
    obtain ⟨i, hi, rfl, hv, hb⟩ := hrel
    have hr := (ud H).later hb
    have hpr := hr.lt
    obtain ⟨r7, r8, r9, r10, r11, r12, r13⟩ := hr.rest
    clear r7 r9 r10 r11 r12 r13
    obtain ⟨a1, cap1, hv1⟩ := zah hv
    have HV := zab hv
    have HB := zab hb
    have HRR := zab hr
    by_cases hil : i < m.nums.length
    ·obtain ⟨x, hx⟩ := zch hil
     have hxo := hno x (List.mem_of_getElem? hx)
     obtain ⟨g, cap', hvn, _, hgz, x0, x1, x2⟩ := nm_at hr.nrow hx
     cases hvn
     have hstep := segsTier_take m.c ((k : Int) - 1) m.nums (zfk m.c m.nums k) i x hx
     have hLl : (zcn m.c ((k : Int) - 1) (m.nums.take i) (zfk m.c m.nums k)).length <= 6000000000 := by
      have h1 := segsTier_len m.c ((k : Int) - 1) (m.nums.take i) (zfk m.c m.nums k)
      have h2 := segsTo_len m.c m.nums k
      have h3 : k * m.nums.length <= 5 * 1000000000 := Nat.mul_le_mul (by omega) hnl
      rw [List.length_take] at h1
      omega
     have hin : (i : Int) < m.nums.length := by omega
     have HSEG := zab (segment_any hr hc ((k : Int) - 1) hk1 hkn x hxo)
     have HSTEP := zab hstep
     subst hv1
     generalize zcn m.c ((k : Int) - 1) (m.nums.take i) (zfk m.c m.nums k) = L at *
     clear hx hstep hxo hr hv hb
     go_wp2_with fail
     refine (ud HSEG).mono ?_
     rintro e w1 ⟨rfl, hb1⟩
     generalize zar m.c ((k : Int) - 1) x = sg at *
     have hbo : ∀ o, Below wr.heap.size wr (w1.alloc o) := fun o => hb1.alloc hb1.size _
     have HAM := zab (zca w.heap.size L _ sg _ (by omega) (zcc (ud HV) (hbo (.cells #[int i64 sg.t, int i64 sg.ser, int i64 sg.win] 232))))
     rcases zey sg L with ⟨hm, hm2⟩ | ⟨hm, hm2⟩
     ·rw [hm] at HAM
      have HAD := zab (addSg_in hm2)
      clear hm hm2
      go_wp2_with fail
      refine (ud HAM).mono ?_
      rintro e w2 ⟨rfl, hb2⟩
      have FB := zab ((ud HB).trans (((hbo (.cells #[int i64 sg.t, int i64 sg.ser, int i64 sg.win] 232)).trans (hb2.mono (hbo _).size)).mono (ud HB).size))
      have FV := zab (zcc (ud HV) ((hbo (.cells #[int i64 sg.t, int i64 sg.ser, int i64 sg.win] 232)).trans (hb2.mono (hbo _).size)))
      go_wp2_with fail
      go_roundw
      case rel => exact ⟨i + 1, by omega, by go_num, by rw [ud HSTEP, ud HAD]; exact ud FV, ud FB⟩
      case measure => simp [intOf]; omega
     ·rw [hm] at HAM
      have HAD := zab (addSg_out hm2)
      clear hm hm2
      go_wp2_with fail
      refine (ud HAM).mono ?_
      rintro e w2 ⟨rfl, hb2⟩
      have FB := zab ((ud HB).trans (((hbo (.cells #[int i64 sg.t, int i64 sg.ser, int i64 sg.win] 232)).trans (hb2.mono (hbo _).size)).mono (ud HB).size))
      have FV := zab (zcc (ud HV) ((hbo (.cells #[int i64 sg.t, int i64 sg.ser, int i64 sg.win] 232)).trans (hb2.mono (hbo _).size)))
      have q := (hb2.block w1.heap.size (by rw [zbd]; omega)).trans (zap _ _)
      have z0 : w2.cell? ⟨w1.heap.size, 0, none⟩ = some (int i64 sg.t) := by rw [zac q]; rfl
      have z1 : w2.cell? ⟨w1.heap.size, 1, none⟩ = some (int i64 sg.ser) := by rw [zac q]; rfl
      have z2 : w2.cell? ⟨w1.heap.size, 2, none⟩ = some (int i64 sg.win) := by rw [zac q]; rfl
      have hsz : w.heap.size <= w2.heap.size := (ud FB).size
      clear q
      go_wp2_with (first
       | (at_builtin; refine push_sg rfl _ _ rfl w.heap.size _ L sg rfl ((ud FV).alloc _) w2.heap.size rfl (zap _ _) ?hll ?hbb ?_; (case hll => omega); (case hbb => (rw [zbd]; omega)); intro g2 cap2 w3 hown hold hgrow hat hlt3)
       | fail)
      have hb3 : Below w.heap.size w w3 := ((ud FB).alloc hsz _).grown hgrow (by simp; omega) (fun k hk => ((ud FV).lt k hk).1)
      exact ⟨⟨i + 1, by omega, by go_num, by rw [ud HSTEP, ud HAD]; exact hown, hb3⟩, by simp [intOf]; omega⟩
    ·have hii : i = m.nums.length := by omega
     have HFV := hv
     rw [hii, List.take_length, <- segsTo_succ] at HFV
     have HFV := zab HFV
     subst hv1
     clear hv hb hr
     go_wp2_with fail
     go_roundw
     case rel => exact ⟨k + 1, by omega, by go_num, ud HFV, ud HB⟩
     case measure => simp [intOf]; omega
  ·have hkk : k = m.c.n + 1 := by omega
   have HFV := hv
   rw [hkk] at HFV
   have HFV := zab HFV
   have HB := zab hb
   obtain ⟨a1, cap1, hv1⟩ := zah hv
   subst hv1
   clear hv hb hr
   go_wp2_with fail
   go_ret
   exact ⟨_, rfl, ud HFV, ud HB⟩
end Go.Proofs.YtpbimdkclnekeaaGreat
