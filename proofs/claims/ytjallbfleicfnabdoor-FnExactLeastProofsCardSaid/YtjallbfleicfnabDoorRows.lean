/-
  NARROWER THAN 'FOR EVERY INPUT', by the rows' own cells (each row's printed sentence says how): FnExactProofOk: laid · FnExactLeastProofs: laid · FnExactTrueWeight: laid · FnExactIdleTests: laid · FnExactTurnsIn: laid · FnValueOf: laid · FnForcedBy: laid · FnProofOk: laid.
  DERIVED. THE GIVEN ROWS OF THIS SEAT. 8 by the template 'for every input the law returns true; each argument reads behind the call as it read before'; 0 by the template 'total and deterministic' (their statements: YtjallbfleicfnabDoorTotals.lean).
  GIVEN WITH THE SEED: the statements are not yours to turn. If you find one false, say at which input.
  Laid BY PROGRAM, IN A SANDBOX (cutbox-rows.mjs): the forced cells as the released guide's own fill.sh prints them over the translation 184fef79dd209c6d… (all of the seat's roots in one cut). By AI agents, Wed Nov 11 2026. No macro, syntax, notation, axiom, sorry.
-/
import Derived.Test.YtjallbfleicfnabDoorChecked
import GoSem.Claim
import GoSem.ClaimJoined
import GoSem.ClaimMapViews
import Derived.JoinedTies
import Derived.KernelRfl
namespace Go.Proofs.YtjallbfleicfnabDoor
/- THE CELL 'sum', in the pinned program and in every row, IS THE sha256 OF THE DUMP (.gsa) THAT YtjallbfleicfnabDoorProg.lean LOADS. Nothing in Lean hashes anything: it is a label: what it is worth is what the hold of that sum in a sandbox is worth. -/
noncomputable def Tryd.pinned : Pinned := { name := "ytjallbfleicfnabdoor", sum := "184fef79dd209c6da0cfcabb848c28448e28123bbe4533190f7af47578dcfd92", checked := Tryd.checked }
namespace Rows
def none {H : Type} : Left H := { results := [], args := [] }

/- WHAT THE LISTED PACKAGE-LEVEL VARIABLES READ AS WHEN THE CALL BEGINS. Each datum BY PROGRAM (the guide's laid-datum.mjs) off the statement by which the dump's own 'gosem.cut.vars' lays the variable. In a bare row this is a premise. The card (YtjallbfleicfnabDoorCards.lean) ties it to the program's text. -/
def laid_loop_example_checksinorder_impl_yesStates {H : Type} : DataW H := .agg [.lit (.int .u32 2863311530), .lit (.int .u32 3435973836), .lit (.int .u32 4042322160), .lit (.int .u32 4278255360), .lit (.int .u32 4294901760)]

/-- 'laws.FnExactProofOk': WHATEVER THE INPUT: true; the input reads as it did. -/
def fnExactProofOkSpec : ChangeSpec := { name := "fnExactProofOk", vars := ["loop.example/checksinorder/impl.yesStates"], fn := fun _ => fun
  | [d1, d2, d3, d4, g1] => { results := [.lit (.bool true)], args := [d1, d2, d3, d4], vars := [g1] }
  | _ => none }
def fnExactProofOkRow : OpenClaim := { program := "ytjallbfleicfnabdoor", sum := "184fef79dd209c6da0cfcabb848c28448e28123bbe4533190f7af47578dcfd92", func := "loop.example/checksinorder/laws.FnExactProofOk", spec := "fnExactProofOk", unfollowed := true, recurses := true, named := ["loop.example/checksinorder/impl.yesStates"], apart := false, laid := [("loop.example/checksinorder/impl.yesStates", laid_loop_example_checksinorder_impl_yesStates)] }
def FnExactProofOkSaid : Prop := fnExactProofOkRow.holds Tryd.pinned (OpenSpec.ofChange fnExactProofOkSpec)

/-- ITS FALSE NEIGHBOUR: 'it returns false'. Refute it at one input. -/
def fnExactProofOkWrong : ChangeSpec := { name := "fnExactProofOk", vars := ["loop.example/checksinorder/impl.yesStates"], fn := fun _ => fun
  | [d1, d2, d3, d4, g1] => { results := [.lit (.bool false)], args := [d1, d2, d3, d4], vars := [g1] }
  | _ => none }
def FnExactProofOkWrongFalsely : Prop := fnExactProofOkRow.holds Tryd.pinned (OpenSpec.ofChange fnExactProofOkWrong)

/-- 'laws.FnExactLeastProofs': WHATEVER THE INPUT: true; the input reads as it did. -/
def fnExactLeastProofsSpec : ChangeSpec := { name := "fnExactLeastProofs", vars := ["loop.example/checksinorder/impl.yesStates"], fn := fun _ => fun
  | [d1, d2, d3, g1] => { results := [.lit (.bool true)], args := [d1, d2, d3], vars := [g1] }
  | _ => none }
def fnExactLeastProofsRow : OpenClaim := { program := "ytjallbfleicfnabdoor", sum := "184fef79dd209c6da0cfcabb848c28448e28123bbe4533190f7af47578dcfd92", func := "loop.example/checksinorder/laws.FnExactLeastProofs", spec := "fnExactLeastProofs", unfollowed := true, recurses := true, named := ["loop.example/checksinorder/impl.yesStates"], apart := false, laid := [("loop.example/checksinorder/impl.yesStates", laid_loop_example_checksinorder_impl_yesStates)] }
def FnExactLeastProofsSaid : Prop := fnExactLeastProofsRow.holds Tryd.pinned (OpenSpec.ofChange fnExactLeastProofsSpec)

/-- ITS FALSE NEIGHBOUR: 'it returns false'. Refute it at one input. -/
def fnExactLeastProofsWrong : ChangeSpec := { name := "fnExactLeastProofs", vars := ["loop.example/checksinorder/impl.yesStates"], fn := fun _ => fun
  | [d1, d2, d3, g1] => { results := [.lit (.bool false)], args := [d1, d2, d3], vars := [g1] }
  | _ => none }
def FnExactLeastProofsWrongFalsely : Prop := fnExactLeastProofsRow.holds Tryd.pinned (OpenSpec.ofChange fnExactLeastProofsWrong)

/-- 'laws.FnExactTrueWeight': WHATEVER THE INPUT: true; the input reads as it did. -/
def fnExactTrueWeightSpec : ChangeSpec := { name := "fnExactTrueWeight", vars := ["loop.example/checksinorder/impl.yesStates"], fn := fun _ => fun
  | [d1, d2, g1] => { results := [.lit (.bool true)], args := [d1, d2], vars := [g1] }
  | _ => none }
def fnExactTrueWeightRow : OpenClaim := { program := "ytjallbfleicfnabdoor", sum := "184fef79dd209c6da0cfcabb848c28448e28123bbe4533190f7af47578dcfd92", func := "loop.example/checksinorder/laws.FnExactTrueWeight", spec := "fnExactTrueWeight", unfollowed := true, recurses := true, named := ["loop.example/checksinorder/impl.yesStates"], apart := false, laid := [("loop.example/checksinorder/impl.yesStates", laid_loop_example_checksinorder_impl_yesStates)] }
def FnExactTrueWeightSaid : Prop := fnExactTrueWeightRow.holds Tryd.pinned (OpenSpec.ofChange fnExactTrueWeightSpec)

/-- ITS FALSE NEIGHBOUR: 'it returns false'. Refute it at one input. -/
def fnExactTrueWeightWrong : ChangeSpec := { name := "fnExactTrueWeight", vars := ["loop.example/checksinorder/impl.yesStates"], fn := fun _ => fun
  | [d1, d2, g1] => { results := [.lit (.bool false)], args := [d1, d2], vars := [g1] }
  | _ => none }
def FnExactTrueWeightWrongFalsely : Prop := fnExactTrueWeightRow.holds Tryd.pinned (OpenSpec.ofChange fnExactTrueWeightWrong)

/-- 'laws.FnExactIdleTests': WHATEVER THE INPUT: true; the input reads as it did. -/
def fnExactIdleTestsSpec : ChangeSpec := { name := "fnExactIdleTests", vars := ["loop.example/checksinorder/impl.yesStates"], fn := fun _ => fun
  | [d1, d2, g1] => { results := [.lit (.bool true)], args := [d1, d2], vars := [g1] }
  | _ => none }
def fnExactIdleTestsRow : OpenClaim := { program := "ytjallbfleicfnabdoor", sum := "184fef79dd209c6da0cfcabb848c28448e28123bbe4533190f7af47578dcfd92", func := "loop.example/checksinorder/laws.FnExactIdleTests", spec := "fnExactIdleTests", unfollowed := true, recurses := true, named := ["loop.example/checksinorder/impl.yesStates"], apart := false, laid := [("loop.example/checksinorder/impl.yesStates", laid_loop_example_checksinorder_impl_yesStates)] }
def FnExactIdleTestsSaid : Prop := fnExactIdleTestsRow.holds Tryd.pinned (OpenSpec.ofChange fnExactIdleTestsSpec)

/-- ITS FALSE NEIGHBOUR: 'it returns false'. Refute it at one input. -/
def fnExactIdleTestsWrong : ChangeSpec := { name := "fnExactIdleTests", vars := ["loop.example/checksinorder/impl.yesStates"], fn := fun _ => fun
  | [d1, d2, g1] => { results := [.lit (.bool false)], args := [d1, d2], vars := [g1] }
  | _ => none }
def FnExactIdleTestsWrongFalsely : Prop := fnExactIdleTestsRow.holds Tryd.pinned (OpenSpec.ofChange fnExactIdleTestsWrong)

/-- 'laws.FnExactTurnsIn': WHATEVER THE INPUT: true; the input reads as it did. -/
def fnExactTurnsInSpec : ChangeSpec := { name := "fnExactTurnsIn", vars := ["loop.example/checksinorder/impl.yesStates"], fn := fun _ => fun
  | [d1, d2, d3, g1] => { results := [.lit (.bool true)], args := [d1, d2, d3], vars := [g1] }
  | _ => none }
def fnExactTurnsInRow : OpenClaim := { program := "ytjallbfleicfnabdoor", sum := "184fef79dd209c6da0cfcabb848c28448e28123bbe4533190f7af47578dcfd92", func := "loop.example/checksinorder/laws.FnExactTurnsIn", spec := "fnExactTurnsIn", unfollowed := true, recurses := true, named := ["loop.example/checksinorder/impl.yesStates"], apart := false, laid := [("loop.example/checksinorder/impl.yesStates", laid_loop_example_checksinorder_impl_yesStates)] }
def FnExactTurnsInSaid : Prop := fnExactTurnsInRow.holds Tryd.pinned (OpenSpec.ofChange fnExactTurnsInSpec)

/-- ITS FALSE NEIGHBOUR: 'it returns false'. Refute it at one input. -/
def fnExactTurnsInWrong : ChangeSpec := { name := "fnExactTurnsIn", vars := ["loop.example/checksinorder/impl.yesStates"], fn := fun _ => fun
  | [d1, d2, d3, g1] => { results := [.lit (.bool false)], args := [d1, d2, d3], vars := [g1] }
  | _ => none }
def FnExactTurnsInWrongFalsely : Prop := fnExactTurnsInRow.holds Tryd.pinned (OpenSpec.ofChange fnExactTurnsInWrong)

/-- 'laws.FnValueOf': WHATEVER THE INPUT: true; the input reads as it did. -/
def fnValueOfSpec : ChangeSpec := { name := "fnValueOf", vars := ["loop.example/checksinorder/impl.yesStates"], fn := fun _ => fun
  | [d, g1] => { results := [.lit (.bool true)], args := [d], vars := [g1] }
  | _ => none }
def fnValueOfRow : OpenClaim := { program := "ytjallbfleicfnabdoor", sum := "184fef79dd209c6da0cfcabb848c28448e28123bbe4533190f7af47578dcfd92", func := "loop.example/checksinorder/laws.FnValueOf", spec := "fnValueOf", unfollowed := true, recurses := true, named := ["loop.example/checksinorder/impl.yesStates"], apart := false, laid := [("loop.example/checksinorder/impl.yesStates", laid_loop_example_checksinorder_impl_yesStates)] }
def FnValueOfSaid : Prop := fnValueOfRow.holds Tryd.pinned (OpenSpec.ofChange fnValueOfSpec)

/-- ITS FALSE NEIGHBOUR: 'it returns false'. Refute it at one input. -/
def fnValueOfWrong : ChangeSpec := { name := "fnValueOf", vars := ["loop.example/checksinorder/impl.yesStates"], fn := fun _ => fun
  | [d, g1] => { results := [.lit (.bool false)], args := [d], vars := [g1] }
  | _ => none }
def FnValueOfWrongFalsely : Prop := fnValueOfRow.holds Tryd.pinned (OpenSpec.ofChange fnValueOfWrong)

/-- 'laws.FnForcedBy': WHATEVER THE INPUT: true; the input reads as it did. -/
def fnForcedBySpec : ChangeSpec := { name := "fnForcedBy", vars := ["loop.example/checksinorder/impl.yesStates"], fn := fun _ => fun
  | [d, g1] => { results := [.lit (.bool true)], args := [d], vars := [g1] }
  | _ => none }
def fnForcedByRow : OpenClaim := { program := "ytjallbfleicfnabdoor", sum := "184fef79dd209c6da0cfcabb848c28448e28123bbe4533190f7af47578dcfd92", func := "loop.example/checksinorder/laws.FnForcedBy", spec := "fnForcedBy", unfollowed := true, recurses := true, named := ["loop.example/checksinorder/impl.yesStates"], apart := false, laid := [("loop.example/checksinorder/impl.yesStates", laid_loop_example_checksinorder_impl_yesStates)] }
def FnForcedBySaid : Prop := fnForcedByRow.holds Tryd.pinned (OpenSpec.ofChange fnForcedBySpec)

/-- ITS FALSE NEIGHBOUR: 'it returns false'. Refute it at one input. -/
def fnForcedByWrong : ChangeSpec := { name := "fnForcedBy", vars := ["loop.example/checksinorder/impl.yesStates"], fn := fun _ => fun
  | [d, g1] => { results := [.lit (.bool false)], args := [d], vars := [g1] }
  | _ => none }
def FnForcedByWrongFalsely : Prop := fnForcedByRow.holds Tryd.pinned (OpenSpec.ofChange fnForcedByWrong)

/-- 'laws.FnProofOk': WHATEVER THE INPUT: true; the input reads as it did. -/
def fnProofOkSpec : ChangeSpec := { name := "fnProofOk", vars := ["loop.example/checksinorder/impl.yesStates"], fn := fun _ => fun
  | [d, g1] => { results := [.lit (.bool true)], args := [d], vars := [g1] }
  | _ => none }
def fnProofOkRow : OpenClaim := { program := "ytjallbfleicfnabdoor", sum := "184fef79dd209c6da0cfcabb848c28448e28123bbe4533190f7af47578dcfd92", func := "loop.example/checksinorder/laws.FnProofOk", spec := "fnProofOk", unfollowed := true, recurses := true, named := ["loop.example/checksinorder/impl.yesStates"], apart := false, laid := [("loop.example/checksinorder/impl.yesStates", laid_loop_example_checksinorder_impl_yesStates)] }
def FnProofOkSaid : Prop := fnProofOkRow.holds Tryd.pinned (OpenSpec.ofChange fnProofOkSpec)

/-- ITS FALSE NEIGHBOUR: 'it returns false'. Refute it at one input. -/
def fnProofOkWrong : ChangeSpec := { name := "fnProofOk", vars := ["loop.example/checksinorder/impl.yesStates"], fn := fun _ => fun
  | [d, g1] => { results := [.lit (.bool false)], args := [d], vars := [g1] }
  | _ => none }
def FnProofOkWrongFalsely : Prop := fnProofOkRow.holds Tryd.pinned (OpenSpec.ofChange fnProofOkWrong)

/- THE SECOND FORM. 'bulk': how many values and letters a reading holds, each counted each time it is reached (what is shared counts as often as it is met; a slice's spare places count too). A statement '..UptoSaid' is the law's where the arguments, and the package variables that the reading takes, are together of bulk at most 1048576: NARROWER than '..Said'. Prove '..Said' where nothing that the law and all that it calls make is longer than what came in: it says more and counts as full. Else prove '..UptoSaid'. A law counts once. -/
mutual
def uptoBulk {H : Type} : DataW H → Nat
  | .lit (.string bytes) => bytes.length + 1
  | .lit _ => 1
  | .nil => 1
  | .ptr d => uptoBulk d + 1
  | .slice elems spare => uptoBulkAll elems + uptoBulkAll spare + 1
  | .agg parts => uptoBulkAll parts + 1
  | .iface _ d => uptoBulk d + 1
  | .map entries => uptoBulkEntries entries + 1
  | .held _ => 1
def uptoBulkAll {H : Type} : List (DataW H) → Nat
  | [] => 0
  | d :: r => uptoBulk d + uptoBulkAll r
def uptoBulkEntries {H : Type} : List (Lit × DataW H) → Nat
  | [] => 0
  | x :: r => uptoBulkEntry x + uptoBulkEntries r
def uptoBulkEntry {H : Type} : Lit × DataW H → Nat
  | (.string bytes, d) => bytes.length + uptoBulk d + 1
  | (_, d) => uptoBulk d + 1
 end
def uptoSmall : (H : Type) → List (DataW H) → Bool := fun _ ds => decide (uptoBulkAll ds ≤ 1048576)
def OpenSpec.upto (s : _root_.Go.ChangeSpec) : _root_.Go.OpenSpec := { _root_.Go.OpenSpec.ofChange s with cond := some uptoSmall }

/-- 'laws.FnExactProofOk', WHERE WHAT IT READS IS OF BULK AT MOST 1048576: true; the input reads as it did. -/
def fnExactProofOkUptoRow : OpenClaim := { program := "ytjallbfleicfnabdoor", sum := "184fef79dd209c6da0cfcabb848c28448e28123bbe4533190f7af47578dcfd92", func := "loop.example/checksinorder/laws.FnExactProofOk", spec := "fnExactProofOk", unfollowed := true, recurses := true, named := ["loop.example/checksinorder/impl.yesStates"], apart := false, laid := [("loop.example/checksinorder/impl.yesStates", laid_loop_example_checksinorder_impl_yesStates)], narrowed := true }
def FnExactProofOkUptoSaid : Prop := fnExactProofOkUptoRow.holds Tryd.pinned (OpenSpec.upto fnExactProofOkSpec)

/-- 'laws.FnExactLeastProofs', WHERE WHAT IT READS IS OF BULK AT MOST 1048576: true; the input reads as it did. -/
def fnExactLeastProofsUptoRow : OpenClaim := { program := "ytjallbfleicfnabdoor", sum := "184fef79dd209c6da0cfcabb848c28448e28123bbe4533190f7af47578dcfd92", func := "loop.example/checksinorder/laws.FnExactLeastProofs", spec := "fnExactLeastProofs", unfollowed := true, recurses := true, named := ["loop.example/checksinorder/impl.yesStates"], apart := false, laid := [("loop.example/checksinorder/impl.yesStates", laid_loop_example_checksinorder_impl_yesStates)], narrowed := true }
def FnExactLeastProofsUptoSaid : Prop := fnExactLeastProofsUptoRow.holds Tryd.pinned (OpenSpec.upto fnExactLeastProofsSpec)

/-- 'laws.FnExactTrueWeight', WHERE WHAT IT READS IS OF BULK AT MOST 1048576: true; the input reads as it did. -/
def fnExactTrueWeightUptoRow : OpenClaim := { program := "ytjallbfleicfnabdoor", sum := "184fef79dd209c6da0cfcabb848c28448e28123bbe4533190f7af47578dcfd92", func := "loop.example/checksinorder/laws.FnExactTrueWeight", spec := "fnExactTrueWeight", unfollowed := true, recurses := true, named := ["loop.example/checksinorder/impl.yesStates"], apart := false, laid := [("loop.example/checksinorder/impl.yesStates", laid_loop_example_checksinorder_impl_yesStates)], narrowed := true }
def FnExactTrueWeightUptoSaid : Prop := fnExactTrueWeightUptoRow.holds Tryd.pinned (OpenSpec.upto fnExactTrueWeightSpec)

/-- 'laws.FnExactIdleTests', WHERE WHAT IT READS IS OF BULK AT MOST 1048576: true; the input reads as it did. -/
def fnExactIdleTestsUptoRow : OpenClaim := { program := "ytjallbfleicfnabdoor", sum := "184fef79dd209c6da0cfcabb848c28448e28123bbe4533190f7af47578dcfd92", func := "loop.example/checksinorder/laws.FnExactIdleTests", spec := "fnExactIdleTests", unfollowed := true, recurses := true, named := ["loop.example/checksinorder/impl.yesStates"], apart := false, laid := [("loop.example/checksinorder/impl.yesStates", laid_loop_example_checksinorder_impl_yesStates)], narrowed := true }
def FnExactIdleTestsUptoSaid : Prop := fnExactIdleTestsUptoRow.holds Tryd.pinned (OpenSpec.upto fnExactIdleTestsSpec)

/-- 'laws.FnExactTurnsIn', WHERE WHAT IT READS IS OF BULK AT MOST 1048576: true; the input reads as it did. -/
def fnExactTurnsInUptoRow : OpenClaim := { program := "ytjallbfleicfnabdoor", sum := "184fef79dd209c6da0cfcabb848c28448e28123bbe4533190f7af47578dcfd92", func := "loop.example/checksinorder/laws.FnExactTurnsIn", spec := "fnExactTurnsIn", unfollowed := true, recurses := true, named := ["loop.example/checksinorder/impl.yesStates"], apart := false, laid := [("loop.example/checksinorder/impl.yesStates", laid_loop_example_checksinorder_impl_yesStates)], narrowed := true }
def FnExactTurnsInUptoSaid : Prop := fnExactTurnsInUptoRow.holds Tryd.pinned (OpenSpec.upto fnExactTurnsInSpec)

/-- 'laws.FnValueOf', WHERE WHAT IT READS IS OF BULK AT MOST 1048576: true; the input reads as it did. -/
def fnValueOfUptoRow : OpenClaim := { program := "ytjallbfleicfnabdoor", sum := "184fef79dd209c6da0cfcabb848c28448e28123bbe4533190f7af47578dcfd92", func := "loop.example/checksinorder/laws.FnValueOf", spec := "fnValueOf", unfollowed := true, recurses := true, named := ["loop.example/checksinorder/impl.yesStates"], apart := false, laid := [("loop.example/checksinorder/impl.yesStates", laid_loop_example_checksinorder_impl_yesStates)], narrowed := true }
def FnValueOfUptoSaid : Prop := fnValueOfUptoRow.holds Tryd.pinned (OpenSpec.upto fnValueOfSpec)

/-- 'laws.FnForcedBy', WHERE WHAT IT READS IS OF BULK AT MOST 1048576: true; the input reads as it did. -/
def fnForcedByUptoRow : OpenClaim := { program := "ytjallbfleicfnabdoor", sum := "184fef79dd209c6da0cfcabb848c28448e28123bbe4533190f7af47578dcfd92", func := "loop.example/checksinorder/laws.FnForcedBy", spec := "fnForcedBy", unfollowed := true, recurses := true, named := ["loop.example/checksinorder/impl.yesStates"], apart := false, laid := [("loop.example/checksinorder/impl.yesStates", laid_loop_example_checksinorder_impl_yesStates)], narrowed := true }
def FnForcedByUptoSaid : Prop := fnForcedByUptoRow.holds Tryd.pinned (OpenSpec.upto fnForcedBySpec)

/-- 'laws.FnProofOk', WHERE WHAT IT READS IS OF BULK AT MOST 1048576: true; the input reads as it did. -/
def fnProofOkUptoRow : OpenClaim := { program := "ytjallbfleicfnabdoor", sum := "184fef79dd209c6da0cfcabb848c28448e28123bbe4533190f7af47578dcfd92", func := "loop.example/checksinorder/laws.FnProofOk", spec := "fnProofOk", unfollowed := true, recurses := true, named := ["loop.example/checksinorder/impl.yesStates"], apart := false, laid := [("loop.example/checksinorder/impl.yesStates", laid_loop_example_checksinorder_impl_yesStates)], narrowed := true }
def FnProofOkUptoSaid : Prop := fnProofOkUptoRow.holds Tryd.pinned (OpenSpec.upto fnProofOkSpec)

end Rows
end Go.Proofs.YtjallbfleicfnabDoor
