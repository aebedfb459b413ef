/-
  No cell of these rows narrows 'for every input' (looked for: loops, veiled, ifaces, maps, wideKeys, modest, calm, conditions, laid).
  DERIVED. THE GIVEN ROWS OF THIS SEAT. 6 by the template 'for every input the law returns true; each argument reads behind the call as it read before'; 0 by the template 'total and deterministic' (their statements: YtpbimdkclnekeaaGreatTotals.lean).
  GIVEN WITH THE SEED: the statements are not yours to turn. If you find one false, say at which input.
  Laid BY PROGRAM, IN A SANDBOX (cutbox-rows.mjs): the forced cells as the released guide's own fill.sh prints them over the translation 547606aefe09ef67… (all of the seat's roots in one cut). By AI agents, Wed Nov 11 2026. No macro, syntax, notation, axiom, sorry.
-/
import Derived.Test.YtpbimdkclnekeaaGreatChecked
import GoSem.Claim
import GoSem.ClaimJoined
import GoSem.ClaimMapViews
import Derived.JoinedTies
import Derived.KernelRfl
namespace Go.Proofs.YtpbimdkclnekeaaGreat
/- THE CELL 'sum', in the pinned program and in every row, IS THE sha256 OF THE DUMP (.gsa) THAT YtpbimdkclnekeaaGreatProg.lean LOADS. Nothing in Lean hashes anything: it is a label: what it is worth is what the hold of that sum in a sandbox is worth. -/
noncomputable def Tryz.pinned : Pinned := { name := "ytpbimdkclnekeaagreat", sum := "547606aefe09ef6780536249de0c974cb3a5d643ad0ada8eef64ec2375e6d300", checked := Tryz.checked }
namespace Rows
def none {H : Type} : Left H := { results := [], args := [] }

/-- 'milllaw.Takes': WHATEVER THE INPUT: true; the input reads as it did. -/
def takesSpec : ChangeSpec := { name := "takes", fn := fun _ => fun
  | [d] => { results := [.lit (.bool true)], args := [d] }
  | _ => none }
def takesRow : OpenClaim := { program := "ytpbimdkclnekeaagreat", sum := "547606aefe09ef6780536249de0c974cb3a5d643ad0ada8eef64ec2375e6d300", func := "mill/milllaw.Takes", spec := "takes", unfollowed := true, recurses := true, plainKeys := false, apart := false }
def TakesSaid : Prop := takesRow.holds Tryz.pinned (OpenSpec.ofChange takesSpec)

/-- ITS FALSE NEIGHBOUR: 'it returns false'. Refute it at one input. -/
def takesWrong : ChangeSpec := { name := "takes", fn := fun _ => fun
  | [d] => { results := [.lit (.bool false)], args := [d] }
  | _ => none }
def TakesWrongFalsely : Prop := takesRow.holds Tryz.pinned (OpenSpec.ofChange takesWrong)

/-- 'milllaw.Works': WHATEVER THE INPUT: true; the input reads as it did. -/
def worksSpec : ChangeSpec := { name := "works", fn := fun _ => fun
  | [d] => { results := [.lit (.bool true)], args := [d] }
  | _ => none }
def worksRow : OpenClaim := { program := "ytpbimdkclnekeaagreat", sum := "547606aefe09ef6780536249de0c974cb3a5d643ad0ada8eef64ec2375e6d300", func := "mill/milllaw.Works", spec := "works", unfollowed := true, recurses := true, plainKeys := false, apart := false }
def WorksSaid : Prop := worksRow.holds Tryz.pinned (OpenSpec.ofChange worksSpec)

/-- ITS FALSE NEIGHBOUR: 'it returns false'. Refute it at one input. -/
def worksWrong : ChangeSpec := { name := "works", fn := fun _ => fun
  | [d] => { results := [.lit (.bool false)], args := [d] }
  | _ => none }
def WorksWrongFalsely : Prop := worksRow.holds Tryz.pinned (OpenSpec.ofChange worksWrong)

/-- 'millkeep.Rolled': WHATEVER THE INPUT: true; the input reads as it did. -/
def rolledSpec : ChangeSpec := { name := "rolled", fn := fun _ => fun
  | [d1, d2] => { results := [.lit (.bool true)], args := [d1, d2] }
  | _ => none }
def rolledRow : OpenClaim := { program := "ytpbimdkclnekeaagreat", sum := "547606aefe09ef6780536249de0c974cb3a5d643ad0ada8eef64ec2375e6d300", func := "mill/millkeep.Rolled", spec := "rolled", unfollowed := true, recurses := true, plainKeys := false, apart := false }
def RolledSaid : Prop := rolledRow.holds Tryz.pinned (OpenSpec.ofChange rolledSpec)

/-- ITS FALSE NEIGHBOUR: 'it returns false'. Refute it at one input. -/
def rolledWrong : ChangeSpec := { name := "rolled", fn := fun _ => fun
  | [d1, d2] => { results := [.lit (.bool false)], args := [d1, d2] }
  | _ => none }
def RolledWrongFalsely : Prop := rolledRow.holds Tryz.pinned (OpenSpec.ofChange rolledWrong)

/-- 'millkeep.Bounded': WHATEVER THE INPUT: true; the input reads as it did. -/
def boundedSpec : ChangeSpec := { name := "bounded", fn := fun _ => fun
  | [d1, d2] => { results := [.lit (.bool true)], args := [d1, d2] }
  | _ => none }
def boundedRow : OpenClaim := { program := "ytpbimdkclnekeaagreat", sum := "547606aefe09ef6780536249de0c974cb3a5d643ad0ada8eef64ec2375e6d300", func := "mill/millkeep.Bounded", spec := "bounded", unfollowed := true, recurses := true, plainKeys := false, apart := false }
def BoundedSaid : Prop := boundedRow.holds Tryz.pinned (OpenSpec.ofChange boundedSpec)

/-- ITS FALSE NEIGHBOUR: 'it returns false'. Refute it at one input. -/
def boundedWrong : ChangeSpec := { name := "bounded", fn := fun _ => fun
  | [d1, d2] => { results := [.lit (.bool false)], args := [d1, d2] }
  | _ => none }
def BoundedWrongFalsely : Prop := boundedRow.holds Tryz.pinned (OpenSpec.ofChange boundedWrong)

/-- 'millkeep.Driven': WHATEVER THE INPUT: true; the input reads as it did. -/
def drivenSpec : ChangeSpec := { name := "driven", fn := fun _ => fun
  | [d1, d2] => { results := [.lit (.bool true)], args := [d1, d2] }
  | _ => none }
def drivenRow : OpenClaim := { program := "ytpbimdkclnekeaagreat", sum := "547606aefe09ef6780536249de0c974cb3a5d643ad0ada8eef64ec2375e6d300", func := "mill/millkeep.Driven", spec := "driven", unfollowed := true, recurses := true, plainKeys := false, apart := false }
def DrivenSaid : Prop := drivenRow.holds Tryz.pinned (OpenSpec.ofChange drivenSpec)

/-- ITS FALSE NEIGHBOUR: 'it returns false'. Refute it at one input. -/
def drivenWrong : ChangeSpec := { name := "driven", fn := fun _ => fun
  | [d1, d2] => { results := [.lit (.bool false)], args := [d1, d2] }
  | _ => none }
def DrivenWrongFalsely : Prop := drivenRow.holds Tryz.pinned (OpenSpec.ofChange drivenWrong)

/-- 'millkeep.Fenced': WHATEVER THE INPUT: true; the input reads as it did. -/
def fencedSpec : ChangeSpec := { name := "fenced", fn := fun _ => fun
  | [d1, d2, d3] => { results := [.lit (.bool true)], args := [d1, d2, d3] }
  | _ => none }
def fencedRow : OpenClaim := { program := "ytpbimdkclnekeaagreat", sum := "547606aefe09ef6780536249de0c974cb3a5d643ad0ada8eef64ec2375e6d300", func := "mill/millkeep.Fenced", spec := "fenced", unfollowed := true, recurses := true, plainKeys := false, apart := false }
def FencedSaid : Prop := fencedRow.holds Tryz.pinned (OpenSpec.ofChange fencedSpec)

/-- ITS FALSE NEIGHBOUR: 'it returns false'. Refute it at one input. -/
def fencedWrong : ChangeSpec := { name := "fenced", fn := fun _ => fun
  | [d1, d2, d3] => { results := [.lit (.bool false)], args := [d1, d2, d3] }
  | _ => none }
def FencedWrongFalsely : Prop := fencedRow.holds Tryz.pinned (OpenSpec.ofChange fencedWrong)

/- THE SECOND FORM. 'bulk': how many values and letters a reading holds, each counted each time it is reached (what is shared counts as often as it is met; a slice's spare places count too). A statement '..UptoSaid' is the law's where the arguments, and the package variables that the reading takes, are together of bulk at most 1048576: NARROWER than '..Said'. Prove '..Said' where nothing that the law and all that it calls make is longer than what came in: it says more and counts as full. Else prove '..UptoSaid'. A law counts once. -/
mutual
def uptoBulk {H : Type} : DataW H → Nat
  | .lit (.string bytes) => bytes.length + 1
  | .lit _ => 1
  | .nil => 1
  | .ptr d => uptoBulk d + 1
  | .slice elems spare => uptoBulkAll elems + uptoBulkAll spare + 1
  | .agg parts => uptoBulkAll parts + 1
  | .iface _ d => uptoBulk d + 1
  | .map entries => uptoBulkEntries entries + 1
  | .held _ => 1
def uptoBulkAll {H : Type} : List (DataW H) → Nat
  | [] => 0
  | d :: r => uptoBulk d + uptoBulkAll r
def uptoBulkEntries {H : Type} : List (Lit × DataW H) → Nat
  | [] => 0
  | x :: r => uptoBulkEntry x + uptoBulkEntries r
def uptoBulkEntry {H : Type} : Lit × DataW H → Nat
  | (.string bytes, d) => bytes.length + uptoBulk d + 1
  | (_, d) => uptoBulk d + 1
 end
def uptoSmall : (H : Type) → List (DataW H) → Bool := fun _ ds => decide (uptoBulkAll ds ≤ 1048576)
def OpenSpec.upto (s : _root_.Go.ChangeSpec) : _root_.Go.OpenSpec := { _root_.Go.OpenSpec.ofChange s with cond := some uptoSmall }

/-- 'milllaw.Takes', WHERE WHAT IT READS IS OF BULK AT MOST 1048576: true; the input reads as it did. -/
def takesUptoRow : OpenClaim := { program := "ytpbimdkclnekeaagreat", sum := "547606aefe09ef6780536249de0c974cb3a5d643ad0ada8eef64ec2375e6d300", func := "mill/milllaw.Takes", spec := "takes", unfollowed := true, recurses := true, plainKeys := false, apart := false, narrowed := true }
def TakesUptoSaid : Prop := takesUptoRow.holds Tryz.pinned (OpenSpec.upto takesSpec)

/-- 'milllaw.Works', WHERE WHAT IT READS IS OF BULK AT MOST 1048576: true; the input reads as it did. -/
def worksUptoRow : OpenClaim := { program := "ytpbimdkclnekeaagreat", sum := "547606aefe09ef6780536249de0c974cb3a5d643ad0ada8eef64ec2375e6d300", func := "mill/milllaw.Works", spec := "works", unfollowed := true, recurses := true, plainKeys := false, apart := false, narrowed := true }
def WorksUptoSaid : Prop := worksUptoRow.holds Tryz.pinned (OpenSpec.upto worksSpec)

/-- 'millkeep.Rolled', WHERE WHAT IT READS IS OF BULK AT MOST 1048576: true; the input reads as it did. -/
def rolledUptoRow : OpenClaim := { program := "ytpbimdkclnekeaagreat", sum := "547606aefe09ef6780536249de0c974cb3a5d643ad0ada8eef64ec2375e6d300", func := "mill/millkeep.Rolled", spec := "rolled", unfollowed := true, recurses := true, plainKeys := false, apart := false, narrowed := true }
def RolledUptoSaid : Prop := rolledUptoRow.holds Tryz.pinned (OpenSpec.upto rolledSpec)

/-- 'millkeep.Bounded', WHERE WHAT IT READS IS OF BULK AT MOST 1048576: true; the input reads as it did. -/
def boundedUptoRow : OpenClaim := { program := "ytpbimdkclnekeaagreat", sum := "547606aefe09ef6780536249de0c974cb3a5d643ad0ada8eef64ec2375e6d300", func := "mill/millkeep.Bounded", spec := "bounded", unfollowed := true, recurses := true, plainKeys := false, apart := false, narrowed := true }
def BoundedUptoSaid : Prop := boundedUptoRow.holds Tryz.pinned (OpenSpec.upto boundedSpec)

/-- 'millkeep.Driven', WHERE WHAT IT READS IS OF BULK AT MOST 1048576: true; the input reads as it did. -/
def drivenUptoRow : OpenClaim := { program := "ytpbimdkclnekeaagreat", sum := "547606aefe09ef6780536249de0c974cb3a5d643ad0ada8eef64ec2375e6d300", func := "mill/millkeep.Driven", spec := "driven", unfollowed := true, recurses := true, plainKeys := false, apart := false, narrowed := true }
def DrivenUptoSaid : Prop := drivenUptoRow.holds Tryz.pinned (OpenSpec.upto drivenSpec)

/-- 'millkeep.Fenced', WHERE WHAT IT READS IS OF BULK AT MOST 1048576: true; the input reads as it did. -/
def fencedUptoRow : OpenClaim := { program := "ytpbimdkclnekeaagreat", sum := "547606aefe09ef6780536249de0c974cb3a5d643ad0ada8eef64ec2375e6d300", func := "mill/millkeep.Fenced", spec := "fenced", unfollowed := true, recurses := true, plainKeys := false, apart := false, narrowed := true }
def FencedUptoSaid : Prop := fencedUptoRow.holds Tryz.pinned (OpenSpec.upto fencedSpec)

end Rows
end Go.Proofs.YtpbimdkclnekeaaGreat
