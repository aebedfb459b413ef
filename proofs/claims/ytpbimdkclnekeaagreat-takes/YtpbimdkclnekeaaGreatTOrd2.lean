import Derived.Test.YtpbimdkclnekeaaGreatTZet7

namespace Go.Proofs.YtpbimdkclnekeaaGreat
open Go.RowKit Go.Maps Go.Shelf
open Go.ChangeMaps (setBlock)
set_option linter.unusedVariables false
def byKeyV (x y : Tsk) : Int := orL [cmpJ x.kd y.kd, cmpJ x.s.t y.s.t, cmpJ x.s.ser y.s.ser, cmpJ x.s.win y.s.win]
end Go.Proofs.YtpbimdkclnekeaaGreat
