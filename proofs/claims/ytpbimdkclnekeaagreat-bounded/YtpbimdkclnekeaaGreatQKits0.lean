import Derived.Test.YtpbimdkclnekeaaGreatQWhr0

namespace Go.Proofs.YtpbimdkclnekeaaGreat
open Go.RowKit Go.Maps
set_option linter.unusedVariables false

/-- a job's key; a token. -/
structure Jk where
  kd : Int
  s : Sg
deriving DecidableEq
structure Tok where
  ep : Int
  num : Int
deriving DecidableEq
def Jk.wf (k : Jk) : Prop := i64B k.kd ∧ k.s.wf
def Tok.wf (k : Tok) : Prop := i64B k.ep ∧ i64B k.num
def jkVal (k : Jk) : Value := .agg #[.int .i64 k.kd, .int .i64 k.s.t, .int .i64 k.s.ser, .int .i64 k.s.win]
def tokVal (k : Tok) : Value := .agg #[.int .i64 k.ep, .int .i64 k.num]
def lseVal (x : Lse) : Value := .agg #[.int .i64 x.kd, .int .i64 x.s.t, .int .i64 x.s.ser, .int .i64 x.s.win, .int .i64 x.slot, .int .i64 x.til]
def tskVal (x : Tsk) : Value := .agg #[.iface x.jt (.agg #[.int .i64 x.s.t, .int .i64 x.s.ser, .int .i64 x.s.win]), .int .i64 x.since, .int .i64 x.tries, .int .i64 x.rest]

theorem jkRow : (147 : TypeId) < Tryz.prog.types.size := of_decide_eq_true (by kernel_rfl)
theorem jkLaw : Keyed Tryz.prog 147 := Keyed.of_law (deep_law_laid Tryz.laidOut (m := 3) (Nat.le_of_ble_eq_true rfl) jkRow (by kernel_rfl) (by kernel_rfl))
theorem tokRow : (49 : TypeId) < Tryz.prog.types.size := of_decide_eq_true (by kernel_rfl)
theorem tokLaw : Keyed Tryz.prog 49 := Keyed.of_law (deep_law_laid Tryz.laidOut (m := 2) (Nat.le_of_ble_eq_true rfl) tokRow (by kernel_rfl) (by kernel_rfl))

theorem jk_cells : Tryz.prog.cellsOf 147 = 4 := by kernel_rfl
theorem tok_cells : Tryz.prog.cellsOf 49 = 2 := by kernel_rfl
theorem jk_type : Tryz.prog.keyType 147 = true := by kernel_rfl
theorem tok_type : Tryz.prog.keyType 49 = true := by kernel_rfl
theorem jk_inj {a b : Jk} (h : jkVal a = jkVal b) : a = b := by
  unfold jkVal at h
  injection h with h
  injection h with h
  injection h with h0 h
  injection h with h1 h
  injection h with h2 h
  injection h with h3 h
  injection h0 with _ h0
  injection h1 with _ h1
  injection h2 with _ h2
  injection h3 with _ h3
  obtain ⟨_, _, _, _⟩ := a; obtain ⟨_, _, _, _⟩ := b; simp at *; exact ⟨h0, h1, h2, h3⟩
theorem tok_inj {a b : Tok} (h : tokVal a = tokVal b) : a = b := by
  unfold tokVal at h
  injection h with h
  injection h with h
  injection h with h0 h
  injection h with h1 h
  injection h0 with _ h0
  injection h1 with _ h1
  cases a; cases b; simp at *; exact ⟨h0, h1⟩
theorem key_size2 : ∃ m, Tryz.prog.types.size = m + 2 := by
  have h : 1 < Tryz.prog.types.size := of_decide_eq_true (by kernel_rfl)
  exact ⟨Tryz.prog.types.size - 2, by omega⟩
theorem jk_key {k : Jk} (h : k.wf) : ∃ kl, keyOf Tryz.prog 147 (jkVal k) = some kl := by
  obtain ⟨m, hm⟩ := key_size2
  obtain ⟨h0, h1, h2, h3⟩ := h
  have hf : (jkVal k).formed Tryz.prog 147 = true := by
    simp [Value.formed, jkVal, Tryz.underlying147, jk_cells]
  unfold keyOf
  simp only [Tryz.underlying147, jk_type, hf, Bool.and_self, if_true]
  have : ∃ ls, Tryz.prog.keyLits (Tryz.prog.types.size + 1) 147 (jkVal k).cells.toList = some ls := by
    rw [hm]
    simp [Program.keyLits, Tryz.underlying147, Tryz.underlying137, Tryz.underlying3, jkVal, Value.cells, jk_cells, key_cells, int_cells, wf64 h0, wf64 h1, wf64 h2, wf64 h3]
    rw [if_pos (fun i hi => by match i, hi with | 0, _ => simp | 1, _ => simp | 2, _ => simp)]
    exact ⟨_, rfl⟩
  obtain ⟨ls, hls⟩ := this
  exact ⟨_, by rw [hls]; rfl⟩
theorem tok_key {k : Tok} (h : k.wf) : ∃ kl, keyOf Tryz.prog 49 (tokVal k) = some kl := by
  obtain ⟨m, hm⟩ := key_size2
  obtain ⟨h0, h1⟩ := h
  have hf : (tokVal k).formed Tryz.prog 49 = true := by
    simp [Value.formed, tokVal, Tryz.underlying49, tok_cells]
  unfold keyOf
  simp only [Tryz.underlying49, tok_type, hf, Bool.and_self, if_true]
  have : ∃ ls, Tryz.prog.keyLits (Tryz.prog.types.size + 1) 49 (tokVal k).cells.toList = some ls := by
    rw [hm]
    simp [Program.keyLits, Tryz.underlying49, Tryz.underlying3, tokVal, Value.cells, tok_cells, int_cells, wf64 h0, wf64 h1]
  obtain ⟨ls, hls⟩ := this
  exact ⟨_, by rw [hls]; rfl⟩

noncomputable def goneM : MK Sg Unit := { P := Tryz.prog, T := 138, K := 137, E := 221, ke := sgVal, ve := fun _ => .agg #[], wf := Sg.wf, z := .agg #[] }
noncomputable def tasksM : MK Jk Tsk := { P := Tryz.prog, T := 154, K := 147, E := 162, ke := jkVal, ve := tskVal, wf := Jk.wf, z := .agg #[.nilIface, .int .i64 0, .int .i64 0, .int .i64 0] }
noncomputable def leasesM : MK Tok Lse := { P := Tryz.prog, T := 153, K := 49, E := 149, ke := tokVal, ve := lseVal, wf := Tok.wf, z := .agg #[.int .i64 0, .int .i64 0, .int .i64 0, .int .i64 0, .int .i64 0, .int .i64 0] }
theorem gone_ok : goneM.Ok := ⟨keyLaw, Tryz.underlying138, fun a h => sg_key h, fun a b h => sg_inj h, fun w => by kernel_rfl⟩
theorem tasks_ok : tasksM.Ok := ⟨jkLaw, Tryz.underlying154, fun a h => jk_key h, fun a b h => jk_inj h, fun w => by kernel_rfl⟩
theorem leases_ok : leasesM.Ok := ⟨tokLaw, Tryz.underlying153, fun a h => tok_key h, fun a b h => tok_inj h, fun w => by kernel_rfl⟩
end Go.Proofs.YtpbimdkclnekeaaGreat
