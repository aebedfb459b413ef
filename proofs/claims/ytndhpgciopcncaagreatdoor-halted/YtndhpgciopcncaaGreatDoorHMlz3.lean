import Derived.Test.YtndhpgciopcncaaGreatDoorHPst0
set_option linter.unusedVariables false
set_option maxRecDepth 20000
set_option maxHeartbeats 4000000
namespace Go.Proofs.YtndhpgciopcncaaGreatDoor
open Go.RowKit Go.Maps Go.Shelf
open Go.ChangeMaps (setBlock)
theorem J4{dn:Bool}{w:World}{i:Ids}{c:Cf}{ep:Int}{m:MS}(h:xK dn w i c ep m)(n:Int)(hn:n<1\/1000<n\/100000<m.now+n)(a:0<=m.now/\m.now<=100000):
  Calls Tryz.prog 26 #[(O i.x),I n] w (Rz w (I 5)):=by
 obtain⟨-,-,-,-,-,-,-,-,l,-,-⟩:=h.cells;have k:=h.lt;obtain⟨g,j⟩:=a;clear h;by_cases b:n<1
 ·clear hn;go_enter Tryz.func26,Tryz.ntmps26;go_wp2_with fail;go_ret;exact⟨rfl,Below.refl _ _⟩
 ·have d:decide (n<1)=false:=by simpa using b
  by_cases e:1000<n
  ·clear hn;go_enter Tryz.func26,Tryz.ntmps26;go_wp2_with fail;go_ret;exact⟨rfl,Below.refl _ _⟩
  ·have f:decide (1000<n)=false:=(by simpa using e);have o:100000<m.now+n:=(by omega);clear hn;go_enter Tryz.func26,Tryz.ntmps26;go_wp2_with fail;go_ret;exact⟨rfl,Below.refl _ _⟩
end Go.Proofs.YtndhpgciopcncaaGreatDoor
