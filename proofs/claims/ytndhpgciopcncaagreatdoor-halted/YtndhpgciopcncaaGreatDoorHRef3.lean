import Derived.Test.YtndhpgciopcncaaGreatDoorHRef2
open Go.Value (int)
open Go.IntKind (i32)
set_option linter.unusedVariables false
namespace Go.Proofs.YtndhpgciopcncaaGreatDoor
open Go.RowKit
def Cf.end(c:Cf)(s:Sg):Int:=(s.wn+1)*c.wh s.t
def Cf.keep(c:Cf)(t:Int):Int:=if t= -1 then c.ke else c.K t.toNat
theorem Cf.ok.keeps{c:Cf}(h:c.ok){t:Int}(a: -1<=t)(b:t<c.n):0<=c.keep t/\c.keep t<=1000:=by
 unfold Cf.keep;split
 ·exact h.ke
 ·exact h.K _ (by omega)
def zpH(A:Cl):Obj:=.cells #[I A.cnt,I A.sum,int i32 A.mn,int i32 A.mx] 115 (0,0)
end Go.Proofs.YtndhpgciopcncaaGreatDoor
