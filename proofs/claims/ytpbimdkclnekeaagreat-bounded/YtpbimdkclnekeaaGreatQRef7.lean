import Derived.Test.YtpbimdkclnekeaaGreatQRef3
import Derived.Laws.ResultCell

namespace Go.Proofs.YtpbimdkclnekeaaGreat
open Go.RowKit
set_option linter.unusedVariables false

/-- segments that are held, waiting, published, reclaimed. -/
structure Sc where
  held : Int
  wait : Int
  pub : Int
  gone : Int
def Sc.ok (a : Sc) (n : Int) : Prop := 0 ≤ a.held ∧ a.held ≤ n ∧ 0 ≤ a.wait ∧ a.wait ≤ n ∧ 0 ≤ a.pub ∧ a.pub ≤ n ∧ 0 ≤ a.gone ∧ a.gone ≤ n
def RM.tightI (m : RM) : Int := if m.tight then 1 else 0
theorem kept_set {f : Nat → Prop} {a w : World} {g i : Nat} {v : Value} (h : Kept f a w) (hg : f g) : Kept f a (w.setCell ⟨g, i, none⟩ v) := h.setCell (p := ⟨g, i, none⟩) (fun _ => hg) v
theorem kept_below {f : Nat → Prop} {a w w' : World} (h : Kept f a w) (hb : Below w.heap.size w w') : Kept f a w' := h.trans (Kept.of_below (f := f) hb) (fun _ _ h => h)

end Go.Proofs.YtpbimdkclnekeaaGreat

namespace Go.Proofs.YtpbimdkclnekeaaGreat
open Go.RowKit
set_option linter.unusedVariables false

theorem results_row_tmp {P : Program} {fn : Func} {p u : Tmp} {ty : TypeId} (h : fn.results = #[.cell p ty, .tmp u]) (tmps : Array Value) (w : World) (g : Nat) (t : TypeId) (cs : Array Value) (fr : Nat × Nat) (d : TypeDesc) (x : Value)
    (hp : tmps.getD p undef = .pointer (some ⟨g, 0, none⟩)) (hx : tmps.getD u undef = x) (hg : w.heap[g]? = some (.cells cs t fr))
    (hu : P.underlying ty = some d) (hd : (match d with | .struct _ | .array _ _ => true | _ => false) = true) (hi : (P.info? ty).map (·.size) = some cs.size) :
    (results fn tmps).run P w = .ok (.tuple #[.agg cs, x]) w := by
  rw [results_cell_tmp h, hp, hx]
  simp [asAddr, run_loadVar_row w g t ty cs fr d hg hu hd hi, Result.andThen]

def clV (A : Cl) : Value := .agg #[.int .i64 A.cnt, .int .i64 A.sum, .int .i32 A.mn, .int .i32 A.mx]
end Go.Proofs.YtpbimdkclnekeaaGreat
