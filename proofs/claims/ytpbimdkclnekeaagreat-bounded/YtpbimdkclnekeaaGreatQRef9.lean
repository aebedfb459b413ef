import Derived.Test.YtpbimdkclnekeaaGreatQRef7

namespace Go.Proofs.YtpbimdkclnekeaaGreat
open Go.RowKit
set_option linter.unusedVariables false

/-- does segment a stand on segment b? -/
def onB (c : Cf) (a b : Sg) : Bool := if a.t = -1 ∨ c.F a.t.toNat ≠ b.t ∨ a.ser ≠ b.ser then false else (b.win * c.width b.t / c.width a.t == a.win)
end Go.Proofs.YtpbimdkclnekeaaGreat

namespace Go.Proofs.YtpbimdkclnekeaaGreat
open Go.RowKit
set_option linter.unusedVariables false

section
variable {α : Type} (lt : α → α → Bool)
def insBy (x : α) : List α → List α
  | [] => [x]
  | y :: r => if lt x y then x :: y :: r else y :: insBy x r
end

/-- by kind, tier, series, window. -/
def lessB (a b : Tk) : Bool := if a.kind ≠ b.kind then decide (a.kind < b.kind) else if a.s.t ≠ b.s.t then decide (a.s.t < b.s.t) else if a.s.ser ≠ b.s.ser then decide (a.s.ser < b.s.ser) else decide (a.s.win < b.s.win)
end Go.Proofs.YtpbimdkclnekeaaGreat
