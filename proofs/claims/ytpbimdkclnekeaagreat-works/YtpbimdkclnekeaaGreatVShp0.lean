import Derived.Test.YtpbimdkclnekeaaGreatVRefR
open Go.Value (int)
open Go.IntKind (i64)
set_option linter.unusedVariables false
namespace Go.Proofs.YtpbimdkclnekeaaGreat
open Go.RowKit Go.Maps Go.Shelf
def ziM(t:Tok):List Value:=[int i64 t.ep,int i64 t.num]
structure Shp where
 p:Nat
 i:Ids
 d:Nat
 ct:Value
 nv:Value
 kv:Value
 uv:Value
section
variable {w:World} {B:Nat} {s:Shp} {c:Cf} {ep:Int} {m:MS} {sn:Int} {ns:List Nm} {ks:List Tok} {us:List Int}
end
end Go.Proofs.YtpbimdkclnekeaaGreat
