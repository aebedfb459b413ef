import Derived.Test.YtpbimdkclnekeaaGreatGRef2

namespace Go.Proofs.YtpbimdkclnekeaaGreat
open Go.RowKit
set_option linter.unusedVariables false
def Cf.end (c : Cf) (s : Sg) : Int := (s.win + 1) * c.width s.t
def Cf.keep (c : Cf) (t : Int) : Int := if t = -1 then c.ke else c.K t.toNat
theorem Cf.ok.keeps {c : Cf} (h : c.ok) {t : Int} (h1 : -1 ≤ t) (h2 : t < c.n) : 0 ≤ c.keep t ∧ c.keep t ≤ 1000 := by
  unfold Cf.keep
  split
  · exact h.ke
  · exact h.K _ (by omega)
end Go.Proofs.YtpbimdkclnekeaaGreat

namespace Go.Proofs.YtpbimdkclnekeaaGreat
open Go.RowKit
set_option linter.unusedVariables false
end Go.Proofs.YtpbimdkclnekeaaGreat
