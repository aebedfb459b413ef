import Derived.Test.YtndhpgciopcncaaGreatDoorRows
import Derived.Test.YtndhpgciopcncaaGreatDoorUMlz0
import Derived.Lib.LaidTab
import Derived.Stop.LaidErr
import Derived.MakeChecks
import Derived.Lay
set_option linter.unusedVariables false
set_option maxRecDepth 100000
namespace Go.Proofs.YtndhpgciopcncaaGreatDoor
open Go.RowKit
abbrev zgn:List (String×DataW Unit):=Rows.boundedRow.laid
theorem zho:Tryz.prog.globalNamed "internal/strconv.uint64pow10" =some 3:=by kernel_rfl
theorem ziV:(Tryz.prog.globals[3]?).map (·.type)=some 387:=by kernel_rfl
theorem Jq{W:World}(h:laidMetH Tryz.prog zgn W):ZR W:=by
 rw[MakeChecks.laidMetH_plain _ _ _ (by kernel_rfl)]at h
 have a:laidMet Tryz.prog (("internal/strconv.uint64pow10",Lib.tabData .u64 Lib.pow10Tab)::zgn.drop 3) W:=h.tail.tail
 exact Lib.tabIs_of_head zho ziV Tryz.underlying387 Tryz.underlying334 (by kernel_rfl) (by kernel_rfl) a
theorem zhn(os:Os)(args:Array Value):laidMetH Tryz.prog zgn ((World.laidAll Tryz.prog os zgn).forCall (fun _ _=>0) ⟨#[],args,[]⟩).memory:=by
 rw[MakeChecks.laidMetH_plain _ _ _ (by kernel_rfl)];exact laidMet_laidAll _ (by kernel_rfl) (by kernel_rfl)
end Go.Proofs.YtndhpgciopcncaaGreatDoor
