import Derived.Test.YtpbimdkclnekeaaGreatHRef2

namespace Go.Proofs.YtpbimdkclnekeaaGreat
open Go.RowKit
end Go.Proofs.YtpbimdkclnekeaaGreat
