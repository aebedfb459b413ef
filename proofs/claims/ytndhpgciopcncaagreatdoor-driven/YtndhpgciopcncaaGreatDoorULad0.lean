import Derived.Test.YtndhpgciopcncaaGreatDoorRows
import Derived.Test.YtndhpgciopcncaaGreatDoorUMlz0
import Derived.Lib.LaidTab
import Derived.Stop.LaidErr
import Derived.MakeChecks
import Derived.Lay
import Derived.Test.YtndhpgciopcncaaGreatDoorChecked
import Derived.WalkKit
import Derived.ProofKit
set_option linter.unusedVariables false
set_option maxRecDepth 100000
open Go.Proofs.Tryz
namespace Go.Proofs.YtndhpgciopcncaaGreatDoor
open Go.RowKit
abbrev zgn:List (String×DataW Unit):=Rows.boundedRow.laid
theorem zho:prog.globalNamed "internal/strconv.uint64pow10" =some 3:=by kernel_rfl
theorem ziV:(prog.globals[3]?).map (·.type)=some 387:=by kernel_rfl
theorem Jq{W:World}(h:laidMetH prog zgn W):ZR W:=by
 rw[MakeChecks.laidMetH_plain _ _ _ (by kernel_rfl)]at h
 have a:laidMet prog (("internal/strconv.uint64pow10",Lib.tabData .u64 Lib.pow10Tab)::zgn.drop 3) W:=h.tail.tail
 exact Lib.tabIs_of_head zho ziV underlying387 underlying334 (by kernel_rfl) (by kernel_rfl) a
theorem zhn(os:Os)(args:Array Value):laidMetH prog zgn ((World.laidAll prog os zgn).forCall (fun _ _=>0) ⟨#[],args,[]⟩).memory:=by
 rw[MakeChecks.laidMetH_plain _ _ _ (by kernel_rfl)];exact laidMet_laidAll _ (by kernel_rfl) (by kernel_rfl)
end Go.Proofs.YtndhpgciopcncaaGreatDoor
namespace Go.Proofs.YtndhpgciopcncaaGreatDoor
open Go.ChangeShapes Go.WideShapes Go.ChangeAt Go.RowKit
set_option maxRecDepth 100000
theorem zeI:(Rows.drivenRow.inPlace==Tryz.pinned.checked.prog.inPlace 7)=true:=by kernel_rfl
theorem zeJ:(Rows.drivenRow.unfollowed==Tryz.pinned.checked.prog.unfollowed 7)=true:=by kernel_rfl
theorem zeK:(Rows.drivenRow.recurses==Tryz.pinned.checked.prog.recurses 7)=true:=by kernel_rfl
theorem zeL:(Rows.drivenRow.named==Tryz.pinned.checked.prog.varsNamed 7)=true:=by kernel_rfl
theorem Kj:joinedFacts Tryz.pinned.checked.prog 7 Tryz.f7 Rows.drivenSpec Rows.drivenRow=true:=by
 simp only[joinedFacts,Bool.and_eq_true]
 repeat' apply And.intro
 all_goals first|with_reducible exact zeI|with_reducible exact zeJ|with_reducible exact zeK|with_reducible exact zeL|kernel_rfl
end Go.Proofs.YtndhpgciopcncaaGreatDoor
