/-
  NARROWER THAN 'FOR EVERY INPUT', by the rows' own cells (each row's printed sentence says how): FnLeastProofs: laid · FnTrueWeight: laid · FnIdleTests: laid · FnTurnsIn: laid · FnForcedProof: laid.
  DERIVED. THE GIVEN ROWS OF THIS SEAT. 5 by the template 'for every input the law returns true; each argument reads behind the call as it read before'; 0 by the template 'total and deterministic' (their statements: YtjallbfleicfnacDoorTotals.lean).
  GIVEN WITH THE SEED: the statements are not yours to turn. If you find one false, say at which input.
  Laid BY PROGRAM, IN A SANDBOX (cutbox-rows.mjs): the forced cells as the released guide's own fill.sh prints them over the translation 9bfb8a6fe860d4f1… (all of the seat's roots in one cut). By AI agents, Wed Nov 11 2026. No macro, syntax, notation, axiom, sorry.
-/
import Derived.Test.YtjallbfleicfnacDoorChecked
import GoSem.Claim
import GoSem.ClaimJoined
import GoSem.ClaimMapViews
import Derived.JoinedTies
import Derived.KernelRfl
namespace Go.Proofs.YtjallbfleicfnacDoor
/- THE CELL 'sum', in the pinned program and in every row, IS THE sha256 OF THE DUMP (.gsa) THAT YtjallbfleicfnacDoorProg.lean LOADS. Nothing in Lean hashes anything: it is a label: what it is worth is what the hold of that sum in a sandbox is worth. -/
noncomputable def Tryd.pinned : Pinned := { name := "ytjallbfleicfnacdoor", sum := "9bfb8a6fe860d4f1c7e1421f73588083b67b7297e755a7a4eebf68a278aa9929", checked := Tryd.checked }
namespace Rows
def none {H : Type} : Left H := { results := [], args := [] }

/- WHAT THE LISTED PACKAGE-LEVEL VARIABLES READ AS WHEN THE CALL BEGINS. Each datum BY PROGRAM (the guide's laid-datum.mjs) off the statement by which the dump's own 'gosem.cut.vars' lays the variable. In a bare row this is a premise. The card (YtjallbfleicfnacDoorCards.lean) ties it to the program's text. -/
def laid_loop_example_checksinorder_impl_yesStates {H : Type} : DataW H := .agg [.lit (.int .u32 2863311530), .lit (.int .u32 3435973836), .lit (.int .u32 4042322160), .lit (.int .u32 4278255360), .lit (.int .u32 4294901760)]

/-- 'laws.FnLeastProofs': WHATEVER THE INPUT: true; the input reads as it did. -/
def fnLeastProofsSpec : ChangeSpec := { name := "fnLeastProofs", vars := ["loop.example/checksinorder/impl.yesStates"], fn := fun _ => fun
  | [d, g1] => { results := [.lit (.bool true)], args := [d], vars := [g1] }
  | _ => none }
def fnLeastProofsRow : OpenClaim := { program := "ytjallbfleicfnacdoor", sum := "9bfb8a6fe860d4f1c7e1421f73588083b67b7297e755a7a4eebf68a278aa9929", func := "loop.example/checksinorder/laws.FnLeastProofs", spec := "fnLeastProofs", unfollowed := true, recurses := true, named := ["loop.example/checksinorder/impl.yesStates"], apart := false, laid := [("loop.example/checksinorder/impl.yesStates", laid_loop_example_checksinorder_impl_yesStates)] }
def FnLeastProofsSaid : Prop := fnLeastProofsRow.holds Tryd.pinned (OpenSpec.ofChange fnLeastProofsSpec)

/-- ITS FALSE NEIGHBOUR: 'it returns false'. Refute it at one input. -/
def fnLeastProofsWrong : ChangeSpec := { name := "fnLeastProofs", vars := ["loop.example/checksinorder/impl.yesStates"], fn := fun _ => fun
  | [d, g1] => { results := [.lit (.bool false)], args := [d], vars := [g1] }
  | _ => none }
def FnLeastProofsWrongFalsely : Prop := fnLeastProofsRow.holds Tryd.pinned (OpenSpec.ofChange fnLeastProofsWrong)

/-- 'laws.FnTrueWeight': WHATEVER THE INPUT: true; the input reads as it did. -/
def fnTrueWeightSpec : ChangeSpec := { name := "fnTrueWeight", vars := ["loop.example/checksinorder/impl.yesStates"], fn := fun _ => fun
  | [d, g1] => { results := [.lit (.bool true)], args := [d], vars := [g1] }
  | _ => none }
def fnTrueWeightRow : OpenClaim := { program := "ytjallbfleicfnacdoor", sum := "9bfb8a6fe860d4f1c7e1421f73588083b67b7297e755a7a4eebf68a278aa9929", func := "loop.example/checksinorder/laws.FnTrueWeight", spec := "fnTrueWeight", unfollowed := true, recurses := true, named := ["loop.example/checksinorder/impl.yesStates"], apart := false, laid := [("loop.example/checksinorder/impl.yesStates", laid_loop_example_checksinorder_impl_yesStates)] }
def FnTrueWeightSaid : Prop := fnTrueWeightRow.holds Tryd.pinned (OpenSpec.ofChange fnTrueWeightSpec)

/-- ITS FALSE NEIGHBOUR: 'it returns false'. Refute it at one input. -/
def fnTrueWeightWrong : ChangeSpec := { name := "fnTrueWeight", vars := ["loop.example/checksinorder/impl.yesStates"], fn := fun _ => fun
  | [d, g1] => { results := [.lit (.bool false)], args := [d], vars := [g1] }
  | _ => none }
def FnTrueWeightWrongFalsely : Prop := fnTrueWeightRow.holds Tryd.pinned (OpenSpec.ofChange fnTrueWeightWrong)

/-- 'laws.FnIdleTests': WHATEVER THE INPUT: true; the input reads as it did. -/
def fnIdleTestsSpec : ChangeSpec := { name := "fnIdleTests", vars := ["loop.example/checksinorder/impl.yesStates"], fn := fun _ => fun
  | [d, g1] => { results := [.lit (.bool true)], args := [d], vars := [g1] }
  | _ => none }
def fnIdleTestsRow : OpenClaim := { program := "ytjallbfleicfnacdoor", sum := "9bfb8a6fe860d4f1c7e1421f73588083b67b7297e755a7a4eebf68a278aa9929", func := "loop.example/checksinorder/laws.FnIdleTests", spec := "fnIdleTests", unfollowed := true, recurses := true, named := ["loop.example/checksinorder/impl.yesStates"], apart := false, laid := [("loop.example/checksinorder/impl.yesStates", laid_loop_example_checksinorder_impl_yesStates)] }
def FnIdleTestsSaid : Prop := fnIdleTestsRow.holds Tryd.pinned (OpenSpec.ofChange fnIdleTestsSpec)

/-- ITS FALSE NEIGHBOUR: 'it returns false'. Refute it at one input. -/
def fnIdleTestsWrong : ChangeSpec := { name := "fnIdleTests", vars := ["loop.example/checksinorder/impl.yesStates"], fn := fun _ => fun
  | [d, g1] => { results := [.lit (.bool false)], args := [d], vars := [g1] }
  | _ => none }
def FnIdleTestsWrongFalsely : Prop := fnIdleTestsRow.holds Tryd.pinned (OpenSpec.ofChange fnIdleTestsWrong)

/-- 'laws.FnTurnsIn': WHATEVER THE INPUT: true; the input reads as it did. -/
def fnTurnsInSpec : ChangeSpec := { name := "fnTurnsIn", vars := ["loop.example/checksinorder/impl.yesStates"], fn := fun _ => fun
  | [d, g1] => { results := [.lit (.bool true)], args := [d], vars := [g1] }
  | _ => none }
def fnTurnsInRow : OpenClaim := { program := "ytjallbfleicfnacdoor", sum := "9bfb8a6fe860d4f1c7e1421f73588083b67b7297e755a7a4eebf68a278aa9929", func := "loop.example/checksinorder/laws.FnTurnsIn", spec := "fnTurnsIn", unfollowed := true, recurses := true, named := ["loop.example/checksinorder/impl.yesStates"], apart := false, laid := [("loop.example/checksinorder/impl.yesStates", laid_loop_example_checksinorder_impl_yesStates)] }
def FnTurnsInSaid : Prop := fnTurnsInRow.holds Tryd.pinned (OpenSpec.ofChange fnTurnsInSpec)

/-- ITS FALSE NEIGHBOUR: 'it returns false'. Refute it at one input. -/
def fnTurnsInWrong : ChangeSpec := { name := "fnTurnsIn", vars := ["loop.example/checksinorder/impl.yesStates"], fn := fun _ => fun
  | [d, g1] => { results := [.lit (.bool false)], args := [d], vars := [g1] }
  | _ => none }
def FnTurnsInWrongFalsely : Prop := fnTurnsInRow.holds Tryd.pinned (OpenSpec.ofChange fnTurnsInWrong)

/-- 'laws.FnForcedProof': WHATEVER THE INPUT: true; the input reads as it did. -/
def fnForcedProofSpec : ChangeSpec := { name := "fnForcedProof", vars := ["loop.example/checksinorder/impl.yesStates"], fn := fun _ => fun
  | [d, g1] => { results := [.lit (.bool true)], args := [d], vars := [g1] }
  | _ => none }
def fnForcedProofRow : OpenClaim := { program := "ytjallbfleicfnacdoor", sum := "9bfb8a6fe860d4f1c7e1421f73588083b67b7297e755a7a4eebf68a278aa9929", func := "loop.example/checksinorder/laws.FnForcedProof", spec := "fnForcedProof", unfollowed := true, recurses := true, named := ["loop.example/checksinorder/impl.yesStates"], apart := false, laid := [("loop.example/checksinorder/impl.yesStates", laid_loop_example_checksinorder_impl_yesStates)] }
def FnForcedProofSaid : Prop := fnForcedProofRow.holds Tryd.pinned (OpenSpec.ofChange fnForcedProofSpec)

/-- ITS FALSE NEIGHBOUR: 'it returns false'. Refute it at one input. -/
def fnForcedProofWrong : ChangeSpec := { name := "fnForcedProof", vars := ["loop.example/checksinorder/impl.yesStates"], fn := fun _ => fun
  | [d, g1] => { results := [.lit (.bool false)], args := [d], vars := [g1] }
  | _ => none }
def FnForcedProofWrongFalsely : Prop := fnForcedProofRow.holds Tryd.pinned (OpenSpec.ofChange fnForcedProofWrong)

/- THE SECOND FORM. 'bulk': how many values and letters a reading holds, each counted each time it is reached (what is shared counts as often as it is met; a slice's spare places count too). A statement '..UptoSaid' is the law's where the arguments, and the package variables that the reading takes, are together of bulk at most 1048576: NARROWER than '..Said'. Prove '..Said' where nothing that the law and all that it calls make is longer than what came in: it says more and counts as full. Else prove '..UptoSaid'. A law counts once. -/
mutual
def uptoBulk {H : Type} : DataW H → Nat
  | .lit (.string bytes) => bytes.length + 1
  | .lit _ => 1
  | .nil => 1
  | .ptr d => uptoBulk d + 1
  | .slice elems spare => uptoBulkAll elems + uptoBulkAll spare + 1
  | .agg parts => uptoBulkAll parts + 1
  | .iface _ d => uptoBulk d + 1
  | .map entries => uptoBulkEntries entries + 1
  | .held _ => 1
def uptoBulkAll {H : Type} : List (DataW H) → Nat
  | [] => 0
  | d :: r => uptoBulk d + uptoBulkAll r
def uptoBulkEntries {H : Type} : List (Lit × DataW H) → Nat
  | [] => 0
  | x :: r => uptoBulkEntry x + uptoBulkEntries r
def uptoBulkEntry {H : Type} : Lit × DataW H → Nat
  | (.string bytes, d) => bytes.length + uptoBulk d + 1
  | (_, d) => uptoBulk d + 1
 end
def uptoSmall : (H : Type) → List (DataW H) → Bool := fun _ ds => decide (uptoBulkAll ds ≤ 1048576)
def OpenSpec.upto (s : _root_.Go.ChangeSpec) : _root_.Go.OpenSpec := { _root_.Go.OpenSpec.ofChange s with cond := some uptoSmall }

/-- 'laws.FnLeastProofs', WHERE WHAT IT READS IS OF BULK AT MOST 1048576: true; the input reads as it did. -/
def fnLeastProofsUptoRow : OpenClaim := { program := "ytjallbfleicfnacdoor", sum := "9bfb8a6fe860d4f1c7e1421f73588083b67b7297e755a7a4eebf68a278aa9929", func := "loop.example/checksinorder/laws.FnLeastProofs", spec := "fnLeastProofs", unfollowed := true, recurses := true, named := ["loop.example/checksinorder/impl.yesStates"], apart := false, laid := [("loop.example/checksinorder/impl.yesStates", laid_loop_example_checksinorder_impl_yesStates)], narrowed := true }
def FnLeastProofsUptoSaid : Prop := fnLeastProofsUptoRow.holds Tryd.pinned (OpenSpec.upto fnLeastProofsSpec)

/-- 'laws.FnTrueWeight', WHERE WHAT IT READS IS OF BULK AT MOST 1048576: true; the input reads as it did. -/
def fnTrueWeightUptoRow : OpenClaim := { program := "ytjallbfleicfnacdoor", sum := "9bfb8a6fe860d4f1c7e1421f73588083b67b7297e755a7a4eebf68a278aa9929", func := "loop.example/checksinorder/laws.FnTrueWeight", spec := "fnTrueWeight", unfollowed := true, recurses := true, named := ["loop.example/checksinorder/impl.yesStates"], apart := false, laid := [("loop.example/checksinorder/impl.yesStates", laid_loop_example_checksinorder_impl_yesStates)], narrowed := true }
def FnTrueWeightUptoSaid : Prop := fnTrueWeightUptoRow.holds Tryd.pinned (OpenSpec.upto fnTrueWeightSpec)

/-- 'laws.FnIdleTests', WHERE WHAT IT READS IS OF BULK AT MOST 1048576: true; the input reads as it did. -/
def fnIdleTestsUptoRow : OpenClaim := { program := "ytjallbfleicfnacdoor", sum := "9bfb8a6fe860d4f1c7e1421f73588083b67b7297e755a7a4eebf68a278aa9929", func := "loop.example/checksinorder/laws.FnIdleTests", spec := "fnIdleTests", unfollowed := true, recurses := true, named := ["loop.example/checksinorder/impl.yesStates"], apart := false, laid := [("loop.example/checksinorder/impl.yesStates", laid_loop_example_checksinorder_impl_yesStates)], narrowed := true }
def FnIdleTestsUptoSaid : Prop := fnIdleTestsUptoRow.holds Tryd.pinned (OpenSpec.upto fnIdleTestsSpec)

/-- 'laws.FnTurnsIn', WHERE WHAT IT READS IS OF BULK AT MOST 1048576: true; the input reads as it did. -/
def fnTurnsInUptoRow : OpenClaim := { program := "ytjallbfleicfnacdoor", sum := "9bfb8a6fe860d4f1c7e1421f73588083b67b7297e755a7a4eebf68a278aa9929", func := "loop.example/checksinorder/laws.FnTurnsIn", spec := "fnTurnsIn", unfollowed := true, recurses := true, named := ["loop.example/checksinorder/impl.yesStates"], apart := false, laid := [("loop.example/checksinorder/impl.yesStates", laid_loop_example_checksinorder_impl_yesStates)], narrowed := true }
def FnTurnsInUptoSaid : Prop := fnTurnsInUptoRow.holds Tryd.pinned (OpenSpec.upto fnTurnsInSpec)

/-- 'laws.FnForcedProof', WHERE WHAT IT READS IS OF BULK AT MOST 1048576: true; the input reads as it did. -/
def fnForcedProofUptoRow : OpenClaim := { program := "ytjallbfleicfnacdoor", sum := "9bfb8a6fe860d4f1c7e1421f73588083b67b7297e755a7a4eebf68a278aa9929", func := "loop.example/checksinorder/laws.FnForcedProof", spec := "fnForcedProof", unfollowed := true, recurses := true, named := ["loop.example/checksinorder/impl.yesStates"], apart := false, laid := [("loop.example/checksinorder/impl.yesStates", laid_loop_example_checksinorder_impl_yesStates)], narrowed := true }
def FnForcedProofUptoSaid : Prop := fnForcedProofUptoRow.holds Tryd.pinned (OpenSpec.upto fnForcedProofSpec)

end Rows
end Go.Proofs.YtjallbfleicfnacDoor
