import Derived.Test.YtpbimdkclnekeaaGreatQConf3

namespace Go.Proofs.YtpbimdkclnekeaaGreat
open Go.RowKit

end Go.Proofs.YtpbimdkclnekeaaGreat
