import Derived.Test.YtndhpgciopcncaaGreatDoorPStp1
set_option linter.unusedVariables false
namespace Go.Proofs.YtndhpgciopcncaaGreatDoor
open Go.RowKit Go.Maps Go.Shelf
theorem zil:(Tryz.prog.info? 49).map (fun i=>(i.zero,i.size,i.bytes))=some (some (.agg #[I 0,I 0]),2,16):=by kernel_rfl
theorem zij:(Tryz.prog.info? 3).map (fun i=>(i.zero,i.size,i.bytes))=some (some (I 0),1,8):=by kernel_rfl
theorem zmo{w:World}{B:Nat}{v:Value}{ep:Int}{k:Nat}(h:w.ownsRow B 49 2 v (Zn ep k).length ((Zn ep k).flatMap zgB)):w.ownsRow B 49 2 v k ((Zn ep k).flatMap zgB):=by rw[zK]at h;exact h
theorem zms{w:World}{B:Nat}{v:Value}{ep:Int}{QL:List (Tok×Lse)}{k:Nat}(h:w.ownsRow B 3 1 v (yK ep QL k).length ((yK ep QL k).map (I))):w.ownsRow B 3 1 v k ((yK ep QL k).map (I)):=by rw[xd]at h;exact h
end Go.Proofs.YtndhpgciopcncaaGreatDoor
