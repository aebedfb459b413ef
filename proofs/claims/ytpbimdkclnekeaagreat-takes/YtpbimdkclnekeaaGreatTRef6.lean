import Derived.Test.YtpbimdkclnekeaaGreatTRef5

namespace Go.Proofs.YtpbimdkclnekeaaGreat
open Value (int)
open IntKind (i64)
open Go.RowKit
set_option linter.unusedVariables false
theorem segsOf_len {c : Cf} {nums : List Nm} (hc : c.n <= 4) (h : nums.length <= 1000000000) : (zax c nums).length <= 5000000000 := by
 have h2 := segsTo_len c nums (c.n + 1)
 have h3 : (c.n + 1) * nums.length <= 5 * 1000000000 := Nat.mul_le_mul (by omega) h
 unfold zax; omega
theorem used_small {c : Cf} {nums : List Nm} {rc l : List Sg} (hl : l.length <= 5000000000) (hn : nums.length <= 1000000000) (h : ∀ x ∈ nums, x.ok) : 0 <= usedOf c nums rc l /\ usedOf c nums rc l <= 6000000000000000000 := by
 have h1 := usedOf_bound (c := c) (nums := nums) (rc := rc) (l := l) h
 have h2 : (l.length : Int) * (nums.length + 2) <= 5000000000 * 1000000002 := Int.mul_le_mul (by omega) (by omega) (by omega) (by omega)
 omega
theorem use_gone {c : Cf} {nums : List Nm} {rc : List Sg} {s : Sg} (h : s ∈ rc) : useOf c nums rc s = 0 := by simp [useOf, h]
theorem use_raw {c : Cf} {nums : List Nm} {rc : List Sg} {s : Sg} (h : ¬ s ∈ rc) (h1 : s.t = -1) : useOf c nums rc s = (zbs c s nums).cnt := by simp [useOf, h, h1]
theorem use_tier {c : Cf} {nums : List Nm} {rc : List Sg} {s : Sg} (h : ¬ s ∈ rc) (h1 : ¬ s.t = -1) : useOf c nums rc s = 2 := by simp [useOf, h, h1]
theorem segs_tier {c : Cf} {nums : List Nm} {s : Sg} (h : s ∈ zax c nums) : -1 <= s.t /\ s.t < c.n := by
 have := mem_segsOf.1 h; exact ⟨this.1, this.2.1⟩
set_option maxHeartbeats 2000000 in
theorem used_any {B : Nat} {w : World} {p : Nat} {m : RM} {tv nv pv gv kv : Value} (h : zbk B w p m tv nv pv gv kv) (hc : m.c.ok) (hnl : m.nums.length <= 1000000000) (hgl : m.gone.length <= 1000000000000) (hno : ∀ x ∈ m.nums, x.ok) :
  Calls Tryz.prog 160 #[.pointer (some ⟨p, 0, none⟩)] w fun e w' => e = .returned (int i64 m.used) /\ Below w.heap.size w w' := by
 have H := zab h
 have HS := zab (segments_any h hc hnl hno)
 have hsl := segsOf_len (nums := m.nums) hc.n4 hnl
 have HU : Hid (m.used = usedOf m.c m.nums m.gone (zax m.c m.nums)) := rfl
 have HM := zab (fun s hs => segs_tier (c := m.c) (nums := m.nums) (s := s) hs)
 obtain ⟨ag, cg, hgv⟩ := zah h.grow
 subst hgv
 clear h
 generalize zax m.c m.nums = L at *
 go_enter Tryz.func160, Tryz.ntmps160
 go_wp2_with fail
 refine (ud HS).mono ?_
 rintro e w0 ⟨v, rfl, hv0, hb0⟩
 obtain ⟨al, cl, hvl⟩ := zah hv0
 subst hvl
 have HV0 := zab hv0
 have HB0 := zab hb0
 clear hv0 hb0
 go_wp2_with fail
 go_loopw [3, 5, 6, 7] (fun z y _ _ wr => ∃ (i : Nat), i <= L.length /\ y = int i64 i /\ z = int i64 (usedOf m.c m.nums m.gone (L.take i)) /\ Below w0.heap.size w0 wr) (fun _ y _ _ _ => L.length - (intOf y).toNat)
 case atStart => exact ⟨0, Nat.zero_le _, rfl, by simp [usedOf], Below.refl _ _⟩
 case round =>
  obtain ⟨i, hi, rfl, rfl, hb⟩ := hrel
  have hbw : Below w.heap.size w wr := (ud HB0).trans (hb.mono (ud HB0).size)
  have hr := (ud H).later hbw
  have hpr := hr.lt
  obtain ⟨r7, r8, r9, r10, r11, r12, r13⟩ := hr.rest
  clear r7 r8 r9 r11 r12 r13
  have HB := zab hb
  have HBW := zab hbw
  have HRR := zab hr
  have HV := zab (zcc (ud HV0) hb)
  clear hr hbw hb
  by_cases hil : i < L.length
  ·obtain ⟨s, hs⟩ := zch hil
   obtain ⟨g, cap', hvn, _, hgz, x0, x1, x2⟩ := sg_at (ud HV) hs
   injection hvn with hvn1 hvn2 hvn3
   subst hvn1
   have hstep := usedOf_take m.c m.nums m.gone L i s hs
   obtain ⟨hst1, hst2⟩ := ud HM s (List.mem_of_getElem? hs)
   have hin : (i : Int) < L.length := by omega
   have hub := used_small (c := m.c) (rc := m.gone) (l := L.take i) (by rw [List.length_take]; omega) hnl hno
   have hcb := cellOf_bound (c := m.c) (s := s) (nums := m.nums) hno
   obtain ⟨hub1, hub2⟩ := hub
   obtain ⟨hcb1, hcb2, -⟩ := hcb
   have HSTEP := zab hstep
   clear hs hstep hvn2 hvn3
   generalize usedOf m.c m.nums m.gone (L.take i) = u at *
   have hne : Nonempty (zaf wr.heap.size wr) := zaf.some _ _
   have hlc := fun (u : zaf wr.heap.size wr) b o h => u.cell b o h
   have HAM := zab (fun (u : zaf wr.heap.size wr) => zca B m.gone _ s u.1 (by omega) ((ud HRR).later u.2).grow)
   have HCE := zab (fun (w1 : World) (hb1 : Below wr.heap.size wr w1) => cell_any ((ud HRR).later hb1) hc hnl hno s hst1 hst2)
   rcases zey s m.gone with ⟨hm, hm2⟩ | ⟨hm, hm2⟩
   ·rw [hm] at HAM
    have HAD := zab (use_gone (c := m.c) (nums := m.nums) hm2)
    clear hm hm2
    go_wp2_with fail
    refine zad wr.heap.size (by kernel_rfl) (by kernel_rfl) ?_
    repeat (go_big_quiet_step (first | (go_at_call 159; exact Calls.later (Nat.le_refl _) (ud HAM _))))
    refine wpQuiet_nil ?_
    rintro ⟨w1, hb1⟩
    clear hlc hne
    have z0 := (hb1.cell (p := ⟨g, i * 3, none⟩) hgz).trans x0
    have z1 := (hb1.cell (p := ⟨g, i * 3 + 1, none⟩) hgz).trans x1
    have z2 := (hb1.cell (p := ⟨g, i * 3 + 2, none⟩) hgz).trans x2
    dsimp only
    go_wp2_with fail
    refine (ud HCE w1 hb1).mono ?_
    rintro e w2 ⟨rfl, hb2⟩
    have FB := zab ((ud HB).trans ((hb1.trans (hb2.mono hb1.size)).mono (ud HB).size))
    go_wp2_with fail
    go_roundw
    case rel => exact ⟨i + 1, by omega, by go_num, by rw [ud HSTEP, ud HAD]; simp, (ud FB).alloc (ud FB).size _⟩
    case measure => simp [intOf]; omega
   ·rw [hm] at HAM
    by_cases hraw : s.t = -1
    ·have HAD := zab (use_raw (c := m.c) (nums := m.nums) hm2 hraw)
     have hrb : (s.t == -1) = true := by simp [hraw]
     clear hm hm2 hraw
     go_wp2_with fail
     refine zad wr.heap.size (by kernel_rfl) (by kernel_rfl) ?_
     repeat (go_big_quiet_step (first | (go_at_call 159; exact Calls.later (Nat.le_refl _) (ud HAM _))))
     refine wpQuiet_nil ?_
     rintro ⟨w1, hb1⟩
     clear hlc hne
     have z0 := (hb1.cell (p := ⟨g, i * 3, none⟩) hgz).trans x0
     have z1 := (hb1.cell (p := ⟨g, i * 3 + 1, none⟩) hgz).trans x1
     have z2 := (hb1.cell (p := ⟨g, i * 3 + 2, none⟩) hgz).trans x2
     dsimp only
     go_wp2_with fail
     refine (ud HCE w1 hb1).mono ?_
     rintro e w2 ⟨rfl, hb2⟩
     have FB := zab ((ud HB).trans ((hb1.trans (hb2.mono hb1.size)).mono (ud HB).size))
     have y0 := ((hb1.trans (hb2.mono hb1.size)).cell (p := ⟨g, i * 3, none⟩) hgz).trans x0
     have hg2 : g < w2.heap.size := Nat.lt_of_lt_of_le hgz (hb1.trans (hb2.mono hb1.size)).size
     clear z0 z1 z2 x0 x1 x2
     generalize zbs m.c s m.nums = A at *
     go_wp2_with fail
     go_roundw
     case rel => exact ⟨i + 1, by omega, by go_num, by rw [ud HSTEP, ud HAD], (ud FB).alloc (ud FB).size _⟩
     case measure => simp [intOf]; omega
    ·have HAD := zab (use_tier (c := m.c) (nums := m.nums) hm2 hraw)
     have hrb : (s.t == -1) = false := by simp [hraw]
     clear hm hm2 hraw
     go_wp2_with fail
     refine zad wr.heap.size (by kernel_rfl) (by kernel_rfl) ?_
     repeat (go_big_quiet_step (first | (go_at_call 159; exact Calls.later (Nat.le_refl _) (ud HAM _))))
     refine wpQuiet_nil ?_
     rintro ⟨w1, hb1⟩
     clear hlc hne
     have z0 := (hb1.cell (p := ⟨g, i * 3, none⟩) hgz).trans x0
     have z1 := (hb1.cell (p := ⟨g, i * 3 + 1, none⟩) hgz).trans x1
     have z2 := (hb1.cell (p := ⟨g, i * 3 + 2, none⟩) hgz).trans x2
     dsimp only
     go_wp2_with fail
     refine (ud HCE w1 hb1).mono ?_
     rintro e w2 ⟨rfl, hb2⟩
     have FB := zab ((ud HB).trans ((hb1.trans (hb2.mono hb1.size)).mono (ud HB).size))
     have y0 := ((hb1.trans (hb2.mono hb1.size)).cell (p := ⟨g, i * 3, none⟩) hgz).trans x0
     have hg2 : g < w2.heap.size := Nat.lt_of_lt_of_le hgz (hb1.trans (hb2.mono hb1.size)).size
     clear z0 z1 z2 x0 x1 x2
     generalize zbs m.c s m.nums = A at *
     go_wp2_with fail
     go_roundw
     case rel => exact ⟨i + 1, by omega, by go_num, by rw [ud HSTEP, ud HAD], (ud FB).alloc (ud FB).size _⟩
     case measure => simp [intOf]; omega
  ·have hii : i = L.length := by omega
   have hU := ud HU
   have hx : usedOf m.c m.nums m.gone (L.take i) = m.used := by rw [hii, List.take_length, hU]
   rw [hx]
   go_wp2_with fail
   go_ret
   exact ⟨rfl, ud HBW⟩
def RM.tight (m : RM) : Bool := decide (3 * m.c.qu < 4 * m.used)
set_option maxHeartbeats 1000000 in
theorem tight_any {B : Nat} {w : World} {p : Nat} {m : RM} {tv nv pv gv kv : Value} (h : zbk B w p m tv nv pv gv kv) (hc : m.c.ok) (hnl : m.nums.length <= 100000000) (hgl : m.gone.length <= 1000000000000) (hno : ∀ x ∈ m.nums, x.ok) (hu : m.used <= 1000000000000000000) :
  Calls Tryz.prog 161 #[.pointer (some ⟨p, 0, none⟩)] w fun e w' => e = .returned (.bool m.tight) /\ Below w.heap.size w w' := by
 have HU := zab (used_any h hc (by omega) hgl hno)
 have hu0 : 0 <= m.used := (used_small (c := m.c) (rc := m.gone) (segsOf_len hc.n4 (by omega)) (by omega) hno).1
 have hp := h.lt
 obtain ⟨c0, c1, c2, c3, c4, c5, c6⟩ := h.conf
 have hq := hc.qu
 have HT : Hid (m.tight = decide (3 * m.c.qu < 4 * m.used)) := rfl
 clear h c0 c1 c2 c3 c4 c6
 go_enter Tryz.func161, Tryz.ntmps161
 go_wp2_with fail
 refine (ud HU).mono ?_
 rintro e w1 ⟨rfl, hb1⟩
 have d5 := (hb1.cell (p := ⟨p, 5, none⟩) hp).trans c5
 generalize m.used = u at *
 go_wp2_with fail
 go_ret
 exact ⟨zaq (by rw [ud HT]), hb1⟩
end Go.Proofs.YtpbimdkclnekeaaGreat
