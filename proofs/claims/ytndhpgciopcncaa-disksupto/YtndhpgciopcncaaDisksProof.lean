/- The statement of Disks where what is read is of moderate bulk, out of its walk. -/
import Derived.Test.YtndhpgciopcncaaRows
import Derived.Test.YtndhpgciopcncaaShelf8
import Derived.WalkKit
import Derived.ProofKit
import Derived.OpenShut
import Derived.ChangeOld
import Derived.Below
import Derived.JoinedCond
import Derived.Deep.Slices
namespace Go.Proofs.Ytndhpgciopcncaa
open Go.ChangeShapes Go.WideShapes Go.ChangeAt Go.RowKit
set_option linter.unusedVariables false

theorem disksOwn : ownKnob Try.prog.godebug = none := by kernel_rfl
theorem disksLaidOut : laidOutB Try.prog = true := by kernel_rfl
theorem Try.cellsAct : Try.prog.cellsOf 39 = 5 := by kernel_rfl
theorem Try.cellsIntD : Try.prog.cellsOf 3 = 1 := by kernel_rfl
theorem Try.cellsStringD : Try.prog.cellsOf 9 = 1 := by kernel_rfl

theorem bulk_part {H : Type} {d : DataW H} : ∀ {l : List (DataW H)}, d ∈ l → Rows.uptoBulk d ≤ Rows.uptoBulkAll l
  | [], h => by cases h
  | x :: r, h => by
    simp only [Rows.uptoBulkAll]
    rcases List.mem_cons.1 h with rfl | h
    · omega
    · have := bulk_part h; omega
theorem bulk_many {H : Type} {c : Nat} : ∀ {l : List (DataW H)}, (∀ d ∈ l, c ≤ Rows.uptoBulk d) → l.length * c ≤ Rows.uptoBulkAll l
  | [], _ => by simp
  | x :: r, h => by
    have h1 := bulk_many (fun d hd => h d (List.mem_cons_of_mem x hd))
    have h2 := h x (by simp)
    simp only [Rows.uptoBulkAll, List.length_cons, Nat.add_mul, Nat.one_mul]
    omega
theorem bulk_bound {H : Type} {l : List (DataW H)} (hk : Rows.uptoSmall H l = true) : Rows.uptoBulkAll l ≤ 1048576 := of_decide_eq_true hk

section
variable {H : Type} {enc : TypeId × Value → H} {w : World} {held : Bool}

theorem open_act {fuel : Nat} {cs : List Value} {x : DataW H × List MemPlace} (h : DataW.trod enc Try.prog w 0 (fun _ => true) held fuel 39 cs = some x) :
    ∃ (kd on a : Int) (n s : ByteArray), cs = [.int .i64 kd, .int .i64 on, .int .i64 a, .string n, .string s] ∧ (Lit.int .i64 on).wf = true ∧ (Lit.int .i64 a).wf = true ∧ 6 + s.size ≤ Rows.uptoBulk x.1 := by
  obtain ⟨xs, m, _, rfl, hl, hlen, hf⟩ := DataW.trod_struct Try.underlying39 h
  rw [Try.cellsAct] at hl
  match cs, hl with
  | [c0, c1, c2, c3, c4], _ =>
    match xs, hlen with
    | [y0, y1, y2, y3, y4], _ =>
      have q0 : DataW.trod enc Try.prog w 0 (fun _ => true) held m 3 [c0] = some y0 := by have h : DataW.trod enc Try.prog w 0 (fun _ => true) held m 3 (([c0, c1, c2, c3, c4].drop 0).take (Try.prog.cellsOf 3)) = some y0 := hf 0 _ rfl; rw [Try.cellsIntD] at h; exact h
      have q1 : DataW.trod enc Try.prog w 0 (fun _ => true) held m 3 [c1] = some y1 := by have h : DataW.trod enc Try.prog w 0 (fun _ => true) held m 3 (([c0, c1, c2, c3, c4].drop 1).take (Try.prog.cellsOf 3)) = some y1 := hf 1 _ rfl; rw [Try.cellsIntD] at h; exact h
      have q2 : DataW.trod enc Try.prog w 0 (fun _ => true) held m 3 [c2] = some y2 := by have h : DataW.trod enc Try.prog w 0 (fun _ => true) held m 3 (([c0, c1, c2, c3, c4].drop 2).take (Try.prog.cellsOf 3)) = some y2 := hf 2 _ rfl; rw [Try.cellsIntD] at h; exact h
      have q3 : DataW.trod enc Try.prog w 0 (fun _ => true) held m 9 [c3] = some y3 := by have h : DataW.trod enc Try.prog w 0 (fun _ => true) held m 9 (([c0, c1, c2, c3, c4].drop 3).take (Try.prog.cellsOf 9)) = some y3 := hf 3 _ rfl; rw [Try.cellsStringD] at h; exact h
      have q4 : DataW.trod enc Try.prog w 0 (fun _ => true) held m 9 [c4] = some y4 := by have h : DataW.trod enc Try.prog w 0 (fun _ => true) held m 9 (([c0, c1, c2, c3, c4].drop 4).take (Try.prog.cellsOf 9)) = some y4 := hf 4 _ rfl; rw [Try.cellsStringD] at h; exact h
      obtain ⟨a0, e0, d0, _⟩ := DataW.trod_int Try.underlying3 q0
      obtain ⟨a1, e1, d1, w1⟩ := DataW.trod_int Try.underlying3 q1
      obtain ⟨a2, e2, d2, w2⟩ := DataW.trod_int Try.underlying3 q2
      obtain ⟨s3, e3, d3, _⟩ := DataW.trod_string Try.underlying9 q3
      obtain ⟨s4, e4, d4, _⟩ := DataW.trod_string Try.underlying9 q4
      simp at e0 e1 e2 e3 e4
      refine ⟨a0, a1, a2, s3, s4, by rw [e0, e1, e2, e3, e4], w1, w2, ?_⟩
      have e : s4.data.toList.length = s4.size := by rw [Array.length_toList]; rfl
      simp only [List.map_cons, List.map_nil, d0, d1, d2, d3, d4, Rows.uptoBulk, Rows.uptoBulkAll]
      omega

theorem open_script {fuel : Nat} {cs : List Value} {x : DataW H × List MemPlace} (h : DataW.trod enc Try.prog w 0 (fun _ => true) held fuel 22 cs = some x) (hk : Rows.uptoBulk x.1 ≤ 1048576) :
    ∃ (a : Option Addr) (n cap : Nat) (Kd On Aa : Nat → Int) (Nm Ss : Nat → ByteArray), cs = [.slice a n cap] ∧ AS w a n Kd On Aa Nm Ss ∧ n ≤ 200000 ∧ (∀ i, i < n → -9223372036854775808 ≤ On i ∧ On i ≤ 9223372036854775807) ∧ (∀ i, i < n → Aa i ≤ 9223372036854775807) ∧ ∀ i, i < n → (Ss i).size ≤ 1048576 := by
  rcases Go.Deep.open_slice Try.underlying22 h with ⟨rfl, rfl⟩ | ⟨a, len, cap, m, n, D, Pl, rfl, hb, hl, hm, hmm, rfl, hx⟩
  · exact ⟨none, 0, 0, fun _ => 0, fun _ => 0, fun _ => 0, fun _ => ByteArray.empty, fun _ => ByteArray.empty, rfl, fun h0 => absurd h0 (Nat.lt_irrefl _), Nat.zero_le _, fun i hi => absurd hi (Nat.not_lt_zero _), fun i hi => absurd hi (Nat.not_lt_zero _), fun i hi => absurd hi (Nat.not_lt_zero _)⟩
  · rw [Try.cellsAct] at hx
    obtain ⟨G, hG⟩ := Go.Deep.choose_lt (α := Int × Int × Int × ByteArray × ByteArray) (n := len) (p := fun i g => w.cells? 0 (a.add (i * 5)) 5 = some [.int .i64 g.1, .int .i64 g.2.1, .int .i64 g.2.2.1, .string g.2.2.2.1, .string g.2.2.2.2] ∧ (Lit.int .i64 g.2.1).wf = true ∧ (Lit.int .i64 g.2.2.1).wf = true ∧ 6 + g.2.2.2.2.size ≤ Rows.uptoBulk (D i)) (fun i hi => by
      obtain ⟨cs', h1, h2⟩ := hx i (by rw [hmm]; simp; omega)
      obtain ⟨kd, on, aa, nn, ss, rfl, w1, w2, hbk⟩ := open_act h2
      exact ⟨(kd, on, aa, nn, ss), h1, w1, w2, hbk⟩)
    have hbk : Rows.uptoBulkAll ((List.range len).map D) ≤ 1048576 := by
      simp only [Rows.uptoBulk] at hk; omega
    have hlen : len ≤ 200000 := by
      have := bulk_many (c := 6) (l := (List.range len).map D) (fun d hd => by
        simp only [List.mem_map, List.mem_range] at hd
        obtain ⟨i, hi, rfl⟩ := hd
        have := (hG i hi).2.2.2; omega)
      simp only [List.length_map, List.length_range] at this
      omega
    refine ⟨some a, len, cap, fun i => (G i).1, fun i => (G i).2.1, fun i => (G i).2.2.1, fun i => (G i).2.2.2.1, fun i => (G i).2.2.2.2, rfl, fun h0 => ?_, hlen, fun i hi => bounds_i64 (hG i hi).2.1, fun i hi => (bounds_i64 (hG i hi).2.2.1).2, fun i hi => ?_⟩
    · obtain ⟨b, off, spot⟩ := a
      have c0 := (World.cells?_some (hG 0 h0).1).2.2 0 (by omega)
      have hspot : spot = none := by simpa [Addr.add] using World.cell?_spot (c0.trans (by rfl))
      subst hspot
      have ad : ∀ o j, (⟨b, o, none⟩ : Addr).add j = ⟨b, o + j, none⟩ := fun o j => by unfold Addr.add; split <;> simp_all
      have hbz : b < w.heap.size := by
        have : w.cell? ⟨b, off, none⟩ = some (.int .i64 (G 0).1) := by simpa [Addr.add] using c0
        by_cases hc : b < w.heap.size
        · exact hc
        · simp [World.cell?, Array.getElem?_eq_none (show w.heap.size ≤ b by omega)] at this
      refine ⟨b, off, rfl, hbz, fun i hi => ?_⟩
      have e := (World.cells?_some (hG i hi).1).2.2
      refine ⟨?_, ?_, ?_, ?_, ?_⟩
      · have := e 0 (by omega); simpa [ad] using this
      · have := e 1 (by omega); simpa [ad] using this
      · have := e 2 (by omega); simpa [ad] using this
      · have := e 3 (by omega); simpa [ad] using this
      · have := e 4 (by omega); simpa [ad] using this
    · have h1 := (hG i hi).2.2.2
      have h2 := bulk_part (d := D i) (l := (List.range len).map D) (List.mem_map.2 ⟨i, List.mem_range.2 hi, rfl⟩)
      dsimp only
      omega
end

theorem disksContract (H : Type) (enc : TypeId × Value → H) (W : World) (base : Nat) (args : Array Value) (ds gs : List (DataW H)) (before : List MemPlace)
    (hval : ∀ (j : Nat) t v, Try.f3.params[j]? = some t → args[j]? = some v → Value.okWide Try.prog W .any base t v)
    (hW : DataW.Whole enc Try.prog Try.f3.params.toList Rows.disksSpec.vars false W args.toList ds gs before) (hk : Rows.uptoSmall H (ds ++ gs) = true) :
    Calls Try.prog 3 args W fun e W' => ∃ v, e = .returned v ∧ Rows.disksSpec.post enc Try.prog Try.f3 false true false false W args v W' := by
  have hW' := hW
  obtain ⟨p, q, hA0, hV, rfl, hfz, hnd⟩ := hW
  have hA : DataW.TrodAll enc Try.prog W 0 (fun _ => true) true Try.f3.params.toList args.toList ds p := hA0
  rw [Try.params3] at hA hval
  obtain ⟨v0, vs0, d0, ds0, p0, q0, hargs, rfl, rfl, h0, r0⟩ := trodAll_cons hA
  obtain ⟨rfl, rfl, rfl⟩ := trodAll_nil r0
  obtain rfl : args = #[v0] := by cases args; simp_all
  obtain ⟨rfl, rfl⟩ := trodVars_none hV
  obtain ⟨a0, len0, cap0, rfl⟩ := okWide_slice Try.underlying22 (hval 0 22 v0 rfl rfl)
  have k0 := h0
  have lt0 : ∀ x ∈ p0, x.block < W.heap.size := by obtain ⟨m, hm⟩ := k0; exact DataW.trod_lt m _ _ _ hm
  obtain ⟨fuel, hf⟩ := h0
  have hf' : DataW.trod enc Try.prog W 0 (fun _ => true) true fuel 22 [.slice a0 len0 cap0] = some (d0, p0) := by simpa [Value.cells] using hf
  have hbulk := bulk_bound hk
  have hbk : Rows.uptoBulk d0 ≤ 1048576 := Nat.le_trans (bulk_part (by simp)) hbulk
  obtain ⟨a, n, cap, Kd, On, Aa, Nm, Ss, hcs, has, hn, hon, ha, hss⟩ := open_script hf' hbk
  simp at hcs
  obtain ⟨rfl, rfl, rfl⟩ := hcs
  clear hA0 hf hf' hbulk hbk
  refine (disks_any a0 len0 cap0 Kd On Aa Nm Ss W has hn hon ha hss).mono fun e W' ⟨he, bel⟩ => ?_
  subst he
  exact ⟨_, rfl, _, _, _, [], _, [], hW', trodAll_mk1 (shut_bool Try.underlying4 _), (trodAll_cons_mk (Below.trod disksLaidOut (by kernel_rfl) (of_decide_eq_true (by kernel_rfl)) k0 bel lt0) trodAll_mk0), rfl, bel.frame _, fun h => by cases h⟩

set_option maxRecDepth 100000 in
theorem disksLifted (os : Os) (started : os.Started) (H : Type) (enc : TypeId × Value → H) (F : Stop.Interp) :
    ReturnsInHanded {} Try.checked os 3 .any ((Rows.OpenSpec.upto Rows.disksSpec).pre6 enc Try.prog Try.f3 Rows.disksUptoRow.domain false) (((Rows.OpenSpec.upto Rows.disksSpec).at F).post enc Try.prog Try.f3 false true false false) := by
  refine returnsInHanded_of_cond (C := Try.checked) (s := Rows.OpenSpec.upto Rows.disksSpec) (k := Rows.uptoSmall) rfl disksOwn started (by kernel_rfl) Try.func3
    (OpenSpec.witness (enc := enc) (C := Try.checked) (s := Rows.OpenSpec.upto Rows.disksSpec) (k := Rows.uptoSmall) rfl false ⟨#[], #[.slice none 0 0], []⟩ 8 (by kernel_rfl) (by kernel_rfl) (by kernel_rfl)
      (x := ([.nil], [], [])) (by kernel_rfl) rfl (by kernel_rfl)) ?_
  intro W base args ds gs before hval hW _ hk _
  exact disksContract H enc W base args ds gs before hval hW hk

theorem disks_upto_holds : Rows.DisksUptoSaid :=
  OpenClaim.holds_of_cond 3 Try.f3 rfl rfl rfl rfl rfl rfl rfl ⟨rfl, rfl, rfl, rfl, rfl⟩ rfl rfl rfl rfl rfl (by kernel_rfl) Try.func3 (by kernel_rfl)
    (of_decide_eq_true (by kernel_rfl)) (by unfold Func.isWrapper; first | (rw [if_pos (by decide +kernel)]; kernel_rfl) | (rw [if_neg (by decide +kernel)]; exact ⟨rfl, rfl⟩))
    (fun os started H enc _ F => disksLifted os started H enc F)
#print axioms disks_upto_holds
end Go.Proofs.Ytndhpgciopcncaa
