import Derived.Test.YtpbimdkclnekeaaGreatKRef2

namespace Go.Proofs.YtpbimdkclnekeaaGreat
open Go.RowKit
end Go.Proofs.YtpbimdkclnekeaaGreat
