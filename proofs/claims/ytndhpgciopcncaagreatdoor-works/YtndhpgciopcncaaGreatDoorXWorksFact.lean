import Derived.Test.YtndhpgciopcncaaGreatDoorRows
import Derived.WalkKit
import Derived.ProofKit
set_option linter.unusedVariables false
namespace Go.Proofs.YtndhpgciopcncaaGreatDoor
open Go.ChangeShapes Go.WideShapes Go.ChangeAt Go.RowKit
set_option maxRecDepth 100000
theorem zoQ:(Rows.worksRow.inPlace==Tryz.pinned.checked.prog.inPlace 4)=true:=by kernel_rfl
theorem zoR:(Rows.worksRow.unfollowed==Tryz.pinned.checked.prog.unfollowed 4)=true:=by kernel_rfl
theorem zoS:(Rows.worksRow.recurses==Tryz.pinned.checked.prog.recurses 4)=true:=by kernel_rfl
theorem zoT:(Rows.worksRow.named==Tryz.pinned.checked.prog.varsNamed 4)=true:=by kernel_rfl
theorem zdZ:joinedFacts Tryz.pinned.checked.prog 4 Tryz.f4 Rows.worksSpec Rows.worksRow=true:=by
 simp only[joinedFacts,Bool.and_eq_true];repeat' apply And.intro
 all_goals first|with_reducible exact zoQ|with_reducible exact zoR|with_reducible exact zoS|with_reducible exact zoT|kernel_rfl
