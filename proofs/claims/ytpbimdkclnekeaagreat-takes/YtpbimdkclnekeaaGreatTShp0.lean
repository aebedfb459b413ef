import Derived.Test.YtpbimdkclnekeaaGreatTRef6
import Derived.Test.YtpbimdkclnekeaaGreatTLater
import Derived.Shelf.Abstract
import Derived.Test.YtpbimdkclnekeaaGreatTMlz0
import Derived.Test.YtpbimdkclnekeaaGreatTRefE
import Derived.Test.YtpbimdkclnekeaaGreatTZet7

namespace Go.Proofs.YtpbimdkclnekeaaGreat
open Value (int)
open IntKind (i64)
open Go.RowKit Go.Maps Go.Shelf
set_option linter.unusedVariables false
def tkV2 (t : Tok) : List Value := [int i64 t.ep, int i64 t.num]
structure Shp where
 p : Nat
 i : Ids
 d : Nat
 ct : Value
 nv : Value
 kv : Value
 uv : Value
section
variable {w : World} {B : Nat} {s : Shp} {c : Cf} {ep : Int} {m : MS} {sn : Int} {ns : List Nm} {ks : List Tok} {us : List Int}
end
end Go.Proofs.YtpbimdkclnekeaaGreat

namespace Go.Proofs.YtpbimdkclnekeaaGreat
open Go.RowKit
set_option linter.unusedVariables false
def Tk.holds (ep num : Int) (x : Tk) : Bool := decide (0 <= x.slot) && (decide (x.ep = ep) && decide (x.num = num))
end Go.Proofs.YtpbimdkclnekeaaGreat
