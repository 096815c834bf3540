/-
  NARROWER THAN 'FOR EVERY INPUT', by the rows' own cells (each row's printed sentence says how): FnExactLeastDepth: laid · FnExactBestAverage: laid · FnExactBestPlan: laid · FnExactOrderPlan: laid · FnExactPlanOk: laid · FnExactCostBy: laid · FnExactAverageBy: laid · FnExactDepthOf: laid · FnExactChoiceWeight: laid · FnExactWorstBy: laid.
  DERIVED. THE GIVEN ROWS OF THIS SEAT. 10 by the template 'for every input the law returns true; each argument reads behind the call as it read before'; 0 by the template 'total and deterministic' (their statements: YthgklolghalofabDoorTotals.lean).
  GIVEN WITH THE SEED: the statements are not yours to turn. If you find one false, say at which input.
  Laid BY PROGRAM, IN A SANDBOX (cutbox-rows.mjs): the forced cells as the released guide's own fill.sh prints them over the translation 0b883e67223b46b9… (all of the seat's roots in one cut). By AI agents, Wed Nov 11 2026. No macro, syntax, notation, axiom, sorry.
-/
import Derived.Test.YthgklolghalofabDoorChecked
import GoSem.Claim
import GoSem.ClaimJoined
import GoSem.ClaimMapViews
import Derived.JoinedTies
import Derived.KernelRfl
namespace Go.Proofs.YthgklolghalofabDoor
/- THE CELL 'sum', in the pinned program and in every row, IS THE sha256 OF THE DUMP (.gsa) THAT YthgklolghalofabDoorProg.lean LOADS. Nothing in Lean hashes anything: it is a label: what it is worth is what the hold of that sum in a sandbox is worth. -/
noncomputable def Tryd.pinned : Pinned := { name := "ythgklolghalofabdoor", sum := "0b883e67223b46b9e3ced70e753a4465e34352b1e25af1d6a19212d85b4466da", checked := Tryd.checked }
namespace Rows
def none {H : Type} : Left H := { results := [], args := [] }

/- WHAT THE LISTED PACKAGE-LEVEL VARIABLES READ AS WHEN THE CALL BEGINS. Each datum BY PROGRAM (the guide's laid-datum.mjs) off the statement by which the dump's own 'gosem.cut.vars' lays the variable. In a bare row this is a premise. The card (YthgklolghalofabDoorCards.lean) ties it to the program's text. -/
def laid_loop_example_checksinorder_impl_yesStates {H : Type} : DataW H := .agg [.lit (.int .u32 2863311530), .lit (.int .u32 3435973836), .lit (.int .u32 4042322160), .lit (.int .u32 4278255360), .lit (.int .u32 4294901760)]

/-- 'laws.FnExactLeastDepth': WHATEVER THE INPUT: true; the input reads as it did. -/
def fnExactLeastDepthSpec : ChangeSpec := { name := "fnExactLeastDepth", vars := ["loop.example/checksinorder/impl.yesStates"], fn := fun _ => fun
  | [d1, d2, g1] => { results := [.lit (.bool true)], args := [d1, d2], vars := [g1] }
  | _ => none }
def fnExactLeastDepthRow : OpenClaim := { program := "ythgklolghalofabdoor", sum := "0b883e67223b46b9e3ced70e753a4465e34352b1e25af1d6a19212d85b4466da", func := "loop.example/checksinorder/laws.FnExactLeastDepth", spec := "fnExactLeastDepth", unfollowed := true, recurses := true, named := ["loop.example/checksinorder/impl.yesStates"], apart := false, laid := [("loop.example/checksinorder/impl.yesStates", laid_loop_example_checksinorder_impl_yesStates)] }
def FnExactLeastDepthSaid : Prop := fnExactLeastDepthRow.holds Tryd.pinned (OpenSpec.ofChange fnExactLeastDepthSpec)

/-- ITS FALSE NEIGHBOUR: 'it returns false'. Refute it at one input. -/
def fnExactLeastDepthWrong : ChangeSpec := { name := "fnExactLeastDepth", vars := ["loop.example/checksinorder/impl.yesStates"], fn := fun _ => fun
  | [d1, d2, g1] => { results := [.lit (.bool false)], args := [d1, d2], vars := [g1] }
  | _ => none }
def FnExactLeastDepthWrongFalsely : Prop := fnExactLeastDepthRow.holds Tryd.pinned (OpenSpec.ofChange fnExactLeastDepthWrong)

/-- 'laws.FnExactBestAverage': WHATEVER THE INPUT: true; the input reads as it did. -/
def fnExactBestAverageSpec : ChangeSpec := { name := "fnExactBestAverage", vars := ["loop.example/checksinorder/impl.yesStates"], fn := fun _ => fun
  | [d1, d2, g1] => { results := [.lit (.bool true)], args := [d1, d2], vars := [g1] }
  | _ => none }
def fnExactBestAverageRow : OpenClaim := { program := "ythgklolghalofabdoor", sum := "0b883e67223b46b9e3ced70e753a4465e34352b1e25af1d6a19212d85b4466da", func := "loop.example/checksinorder/laws.FnExactBestAverage", spec := "fnExactBestAverage", unfollowed := true, recurses := true, named := ["loop.example/checksinorder/impl.yesStates"], apart := false, laid := [("loop.example/checksinorder/impl.yesStates", laid_loop_example_checksinorder_impl_yesStates)] }
def FnExactBestAverageSaid : Prop := fnExactBestAverageRow.holds Tryd.pinned (OpenSpec.ofChange fnExactBestAverageSpec)

/-- ITS FALSE NEIGHBOUR: 'it returns false'. Refute it at one input. -/
def fnExactBestAverageWrong : ChangeSpec := { name := "fnExactBestAverage", vars := ["loop.example/checksinorder/impl.yesStates"], fn := fun _ => fun
  | [d1, d2, g1] => { results := [.lit (.bool false)], args := [d1, d2], vars := [g1] }
  | _ => none }
def FnExactBestAverageWrongFalsely : Prop := fnExactBestAverageRow.holds Tryd.pinned (OpenSpec.ofChange fnExactBestAverageWrong)

/-- 'laws.FnExactBestPlan': WHATEVER THE INPUT: true; the input reads as it did. -/
def fnExactBestPlanSpec : ChangeSpec := { name := "fnExactBestPlan", vars := ["loop.example/checksinorder/impl.yesStates"], fn := fun _ => fun
  | [d1, d2, g1] => { results := [.lit (.bool true)], args := [d1, d2], vars := [g1] }
  | _ => none }
def fnExactBestPlanRow : OpenClaim := { program := "ythgklolghalofabdoor", sum := "0b883e67223b46b9e3ced70e753a4465e34352b1e25af1d6a19212d85b4466da", func := "loop.example/checksinorder/laws.FnExactBestPlan", spec := "fnExactBestPlan", unfollowed := true, recurses := true, named := ["loop.example/checksinorder/impl.yesStates"], apart := false, laid := [("loop.example/checksinorder/impl.yesStates", laid_loop_example_checksinorder_impl_yesStates)] }
def FnExactBestPlanSaid : Prop := fnExactBestPlanRow.holds Tryd.pinned (OpenSpec.ofChange fnExactBestPlanSpec)

/-- ITS FALSE NEIGHBOUR: 'it returns false'. Refute it at one input. -/
def fnExactBestPlanWrong : ChangeSpec := { name := "fnExactBestPlan", vars := ["loop.example/checksinorder/impl.yesStates"], fn := fun _ => fun
  | [d1, d2, g1] => { results := [.lit (.bool false)], args := [d1, d2], vars := [g1] }
  | _ => none }
def FnExactBestPlanWrongFalsely : Prop := fnExactBestPlanRow.holds Tryd.pinned (OpenSpec.ofChange fnExactBestPlanWrong)

/-- 'laws.FnExactOrderPlan': WHATEVER THE INPUT: true; the input reads as it did. -/
def fnExactOrderPlanSpec : ChangeSpec := { name := "fnExactOrderPlan", vars := ["loop.example/checksinorder/impl.yesStates"], fn := fun _ => fun
  | [d1, d2, d3, g1] => { results := [.lit (.bool true)], args := [d1, d2, d3], vars := [g1] }
  | _ => none }
def fnExactOrderPlanRow : OpenClaim := { program := "ythgklolghalofabdoor", sum := "0b883e67223b46b9e3ced70e753a4465e34352b1e25af1d6a19212d85b4466da", func := "loop.example/checksinorder/laws.FnExactOrderPlan", spec := "fnExactOrderPlan", unfollowed := true, recurses := true, named := ["loop.example/checksinorder/impl.yesStates"], apart := false, laid := [("loop.example/checksinorder/impl.yesStates", laid_loop_example_checksinorder_impl_yesStates)] }
def FnExactOrderPlanSaid : Prop := fnExactOrderPlanRow.holds Tryd.pinned (OpenSpec.ofChange fnExactOrderPlanSpec)

/-- ITS FALSE NEIGHBOUR: 'it returns false'. Refute it at one input. -/
def fnExactOrderPlanWrong : ChangeSpec := { name := "fnExactOrderPlan", vars := ["loop.example/checksinorder/impl.yesStates"], fn := fun _ => fun
  | [d1, d2, d3, g1] => { results := [.lit (.bool false)], args := [d1, d2, d3], vars := [g1] }
  | _ => none }
def FnExactOrderPlanWrongFalsely : Prop := fnExactOrderPlanRow.holds Tryd.pinned (OpenSpec.ofChange fnExactOrderPlanWrong)

/-- 'laws.FnExactPlanOk': WHATEVER THE INPUT: true; the input reads as it did. -/
def fnExactPlanOkSpec : ChangeSpec := { name := "fnExactPlanOk", vars := ["loop.example/checksinorder/impl.yesStates"], fn := fun _ => fun
  | [d1, d2, d3, g1] => { results := [.lit (.bool true)], args := [d1, d2, d3], vars := [g1] }
  | _ => none }
def fnExactPlanOkRow : OpenClaim := { program := "ythgklolghalofabdoor", sum := "0b883e67223b46b9e3ced70e753a4465e34352b1e25af1d6a19212d85b4466da", func := "loop.example/checksinorder/laws.FnExactPlanOk", spec := "fnExactPlanOk", unfollowed := true, recurses := true, named := ["loop.example/checksinorder/impl.yesStates"], apart := false, laid := [("loop.example/checksinorder/impl.yesStates", laid_loop_example_checksinorder_impl_yesStates)] }
def FnExactPlanOkSaid : Prop := fnExactPlanOkRow.holds Tryd.pinned (OpenSpec.ofChange fnExactPlanOkSpec)

/-- ITS FALSE NEIGHBOUR: 'it returns false'. Refute it at one input. -/
def fnExactPlanOkWrong : ChangeSpec := { name := "fnExactPlanOk", vars := ["loop.example/checksinorder/impl.yesStates"], fn := fun _ => fun
  | [d1, d2, d3, g1] => { results := [.lit (.bool false)], args := [d1, d2, d3], vars := [g1] }
  | _ => none }
def FnExactPlanOkWrongFalsely : Prop := fnExactPlanOkRow.holds Tryd.pinned (OpenSpec.ofChange fnExactPlanOkWrong)

/-- 'laws.FnExactCostBy': WHATEVER THE INPUT: true; the input reads as it did. -/
def fnExactCostBySpec : ChangeSpec := { name := "fnExactCostBy", vars := ["loop.example/checksinorder/impl.yesStates"], fn := fun _ => fun
  | [d1, d2, d3, d4, g1] => { results := [.lit (.bool true)], args := [d1, d2, d3, d4], vars := [g1] }
  | _ => none }
def fnExactCostByRow : OpenClaim := { program := "ythgklolghalofabdoor", sum := "0b883e67223b46b9e3ced70e753a4465e34352b1e25af1d6a19212d85b4466da", func := "loop.example/checksinorder/laws.FnExactCostBy", spec := "fnExactCostBy", unfollowed := true, recurses := true, named := ["loop.example/checksinorder/impl.yesStates"], apart := false, laid := [("loop.example/checksinorder/impl.yesStates", laid_loop_example_checksinorder_impl_yesStates)] }
def FnExactCostBySaid : Prop := fnExactCostByRow.holds Tryd.pinned (OpenSpec.ofChange fnExactCostBySpec)

/-- ITS FALSE NEIGHBOUR: 'it returns false'. Refute it at one input. -/
def fnExactCostByWrong : ChangeSpec := { name := "fnExactCostBy", vars := ["loop.example/checksinorder/impl.yesStates"], fn := fun _ => fun
  | [d1, d2, d3, d4, g1] => { results := [.lit (.bool false)], args := [d1, d2, d3, d4], vars := [g1] }
  | _ => none }
def FnExactCostByWrongFalsely : Prop := fnExactCostByRow.holds Tryd.pinned (OpenSpec.ofChange fnExactCostByWrong)

/-- 'laws.FnExactAverageBy': WHATEVER THE INPUT: true; the input reads as it did. -/
def fnExactAverageBySpec : ChangeSpec := { name := "fnExactAverageBy", vars := ["loop.example/checksinorder/impl.yesStates"], fn := fun _ => fun
  | [d1, d2, d3, g1] => { results := [.lit (.bool true)], args := [d1, d2, d3], vars := [g1] }
  | _ => none }
def fnExactAverageByRow : OpenClaim := { program := "ythgklolghalofabdoor", sum := "0b883e67223b46b9e3ced70e753a4465e34352b1e25af1d6a19212d85b4466da", func := "loop.example/checksinorder/laws.FnExactAverageBy", spec := "fnExactAverageBy", unfollowed := true, recurses := true, named := ["loop.example/checksinorder/impl.yesStates"], apart := false, laid := [("loop.example/checksinorder/impl.yesStates", laid_loop_example_checksinorder_impl_yesStates)] }
def FnExactAverageBySaid : Prop := fnExactAverageByRow.holds Tryd.pinned (OpenSpec.ofChange fnExactAverageBySpec)

/-- ITS FALSE NEIGHBOUR: 'it returns false'. Refute it at one input. -/
def fnExactAverageByWrong : ChangeSpec := { name := "fnExactAverageBy", vars := ["loop.example/checksinorder/impl.yesStates"], fn := fun _ => fun
  | [d1, d2, d3, g1] => { results := [.lit (.bool false)], args := [d1, d2, d3], vars := [g1] }
  | _ => none }
def FnExactAverageByWrongFalsely : Prop := fnExactAverageByRow.holds Tryd.pinned (OpenSpec.ofChange fnExactAverageByWrong)

/-- 'laws.FnExactDepthOf': WHATEVER THE INPUT: true; the input reads as it did. -/
def fnExactDepthOfSpec : ChangeSpec := { name := "fnExactDepthOf", vars := ["loop.example/checksinorder/impl.yesStates"], fn := fun _ => fun
  | [d1, d2, d3, g1] => { results := [.lit (.bool true)], args := [d1, d2, d3], vars := [g1] }
  | _ => none }
def fnExactDepthOfRow : OpenClaim := { program := "ythgklolghalofabdoor", sum := "0b883e67223b46b9e3ced70e753a4465e34352b1e25af1d6a19212d85b4466da", func := "loop.example/checksinorder/laws.FnExactDepthOf", spec := "fnExactDepthOf", unfollowed := true, recurses := true, named := ["loop.example/checksinorder/impl.yesStates"], apart := false, laid := [("loop.example/checksinorder/impl.yesStates", laid_loop_example_checksinorder_impl_yesStates)] }
def FnExactDepthOfSaid : Prop := fnExactDepthOfRow.holds Tryd.pinned (OpenSpec.ofChange fnExactDepthOfSpec)

/-- ITS FALSE NEIGHBOUR: 'it returns false'. Refute it at one input. -/
def fnExactDepthOfWrong : ChangeSpec := { name := "fnExactDepthOf", vars := ["loop.example/checksinorder/impl.yesStates"], fn := fun _ => fun
  | [d1, d2, d3, g1] => { results := [.lit (.bool false)], args := [d1, d2, d3], vars := [g1] }
  | _ => none }
def FnExactDepthOfWrongFalsely : Prop := fnExactDepthOfRow.holds Tryd.pinned (OpenSpec.ofChange fnExactDepthOfWrong)

/-- 'laws.FnExactChoiceWeight': WHATEVER THE INPUT: true; the input reads as it did. -/
def fnExactChoiceWeightSpec : ChangeSpec := { name := "fnExactChoiceWeight", vars := ["loop.example/checksinorder/impl.yesStates"], fn := fun _ => fun
  | [d1, d2, d3, d4, g1] => { results := [.lit (.bool true)], args := [d1, d2, d3, d4], vars := [g1] }
  | _ => none }
def fnExactChoiceWeightRow : OpenClaim := { program := "ythgklolghalofabdoor", sum := "0b883e67223b46b9e3ced70e753a4465e34352b1e25af1d6a19212d85b4466da", func := "loop.example/checksinorder/laws.FnExactChoiceWeight", spec := "fnExactChoiceWeight", unfollowed := true, recurses := true, named := ["loop.example/checksinorder/impl.yesStates"], apart := false, laid := [("loop.example/checksinorder/impl.yesStates", laid_loop_example_checksinorder_impl_yesStates)] }
def FnExactChoiceWeightSaid : Prop := fnExactChoiceWeightRow.holds Tryd.pinned (OpenSpec.ofChange fnExactChoiceWeightSpec)

/-- ITS FALSE NEIGHBOUR: 'it returns false'. Refute it at one input. -/
def fnExactChoiceWeightWrong : ChangeSpec := { name := "fnExactChoiceWeight", vars := ["loop.example/checksinorder/impl.yesStates"], fn := fun _ => fun
  | [d1, d2, d3, d4, g1] => { results := [.lit (.bool false)], args := [d1, d2, d3, d4], vars := [g1] }
  | _ => none }
def FnExactChoiceWeightWrongFalsely : Prop := fnExactChoiceWeightRow.holds Tryd.pinned (OpenSpec.ofChange fnExactChoiceWeightWrong)

/-- 'laws.FnExactWorstBy': WHATEVER THE INPUT: true; the input reads as it did. -/
def fnExactWorstBySpec : ChangeSpec := { name := "fnExactWorstBy", vars := ["loop.example/checksinorder/impl.yesStates"], fn := fun _ => fun
  | [d1, d2, d3, g1] => { results := [.lit (.bool true)], args := [d1, d2, d3], vars := [g1] }
  | _ => none }
def fnExactWorstByRow : OpenClaim := { program := "ythgklolghalofabdoor", sum := "0b883e67223b46b9e3ced70e753a4465e34352b1e25af1d6a19212d85b4466da", func := "loop.example/checksinorder/laws.FnExactWorstBy", spec := "fnExactWorstBy", unfollowed := true, recurses := true, named := ["loop.example/checksinorder/impl.yesStates"], apart := false, laid := [("loop.example/checksinorder/impl.yesStates", laid_loop_example_checksinorder_impl_yesStates)] }
def FnExactWorstBySaid : Prop := fnExactWorstByRow.holds Tryd.pinned (OpenSpec.ofChange fnExactWorstBySpec)

/-- ITS FALSE NEIGHBOUR: 'it returns false'. Refute it at one input. -/
def fnExactWorstByWrong : ChangeSpec := { name := "fnExactWorstBy", vars := ["loop.example/checksinorder/impl.yesStates"], fn := fun _ => fun
  | [d1, d2, d3, g1] => { results := [.lit (.bool false)], args := [d1, d2, d3], vars := [g1] }
  | _ => none }
def FnExactWorstByWrongFalsely : Prop := fnExactWorstByRow.holds Tryd.pinned (OpenSpec.ofChange fnExactWorstByWrong)

/- THE SECOND FORM. 'bulk': how many values and letters a reading holds, each counted each time it is reached (what is shared counts as often as it is met; a slice's spare places count too). A statement '..UptoSaid' is the law's where the arguments, and the package variables that the reading takes, are together of bulk at most 1048576: NARROWER than '..Said'. Prove '..Said' where nothing that the law and all that it calls make is longer than what came in: it says more and counts as full. Else prove '..UptoSaid'. A law counts once. -/
mutual
def uptoBulk {H : Type} : DataW H → Nat
  | .lit (.string bytes) => bytes.length + 1
  | .lit _ => 1
  | .nil => 1
  | .ptr d => uptoBulk d + 1
  | .slice elems spare => uptoBulkAll elems + uptoBulkAll spare + 1
  | .agg parts => uptoBulkAll parts + 1
  | .iface _ d => uptoBulk d + 1
  | .map entries => uptoBulkEntries entries + 1
  | .held _ => 1
def uptoBulkAll {H : Type} : List (DataW H) → Nat
  | [] => 0
  | d :: r => uptoBulk d + uptoBulkAll r
def uptoBulkEntries {H : Type} : List (Lit × DataW H) → Nat
  | [] => 0
  | x :: r => uptoBulkEntry x + uptoBulkEntries r
def uptoBulkEntry {H : Type} : Lit × DataW H → Nat
  | (.string bytes, d) => bytes.length + uptoBulk d + 1
  | (_, d) => uptoBulk d + 1
 end
def uptoSmall : (H : Type) → List (DataW H) → Bool := fun _ ds => decide (uptoBulkAll ds ≤ 1048576)
def OpenSpec.upto (s : _root_.Go.ChangeSpec) : _root_.Go.OpenSpec := { _root_.Go.OpenSpec.ofChange s with cond := some uptoSmall }

/-- 'laws.FnExactLeastDepth', WHERE WHAT IT READS IS OF BULK AT MOST 1048576: true; the input reads as it did. -/
def fnExactLeastDepthUptoRow : OpenClaim := { program := "ythgklolghalofabdoor", sum := "0b883e67223b46b9e3ced70e753a4465e34352b1e25af1d6a19212d85b4466da", func := "loop.example/checksinorder/laws.FnExactLeastDepth", spec := "fnExactLeastDepth", unfollowed := true, recurses := true, named := ["loop.example/checksinorder/impl.yesStates"], apart := false, laid := [("loop.example/checksinorder/impl.yesStates", laid_loop_example_checksinorder_impl_yesStates)], narrowed := true }
def FnExactLeastDepthUptoSaid : Prop := fnExactLeastDepthUptoRow.holds Tryd.pinned (OpenSpec.upto fnExactLeastDepthSpec)

/-- 'laws.FnExactBestAverage', WHERE WHAT IT READS IS OF BULK AT MOST 1048576: true; the input reads as it did. -/
def fnExactBestAverageUptoRow : OpenClaim := { program := "ythgklolghalofabdoor", sum := "0b883e67223b46b9e3ced70e753a4465e34352b1e25af1d6a19212d85b4466da", func := "loop.example/checksinorder/laws.FnExactBestAverage", spec := "fnExactBestAverage", unfollowed := true, recurses := true, named := ["loop.example/checksinorder/impl.yesStates"], apart := false, laid := [("loop.example/checksinorder/impl.yesStates", laid_loop_example_checksinorder_impl_yesStates)], narrowed := true }
def FnExactBestAverageUptoSaid : Prop := fnExactBestAverageUptoRow.holds Tryd.pinned (OpenSpec.upto fnExactBestAverageSpec)

/-- 'laws.FnExactBestPlan', WHERE WHAT IT READS IS OF BULK AT MOST 1048576: true; the input reads as it did. -/
def fnExactBestPlanUptoRow : OpenClaim := { program := "ythgklolghalofabdoor", sum := "0b883e67223b46b9e3ced70e753a4465e34352b1e25af1d6a19212d85b4466da", func := "loop.example/checksinorder/laws.FnExactBestPlan", spec := "fnExactBestPlan", unfollowed := true, recurses := true, named := ["loop.example/checksinorder/impl.yesStates"], apart := false, laid := [("loop.example/checksinorder/impl.yesStates", laid_loop_example_checksinorder_impl_yesStates)], narrowed := true }
def FnExactBestPlanUptoSaid : Prop := fnExactBestPlanUptoRow.holds Tryd.pinned (OpenSpec.upto fnExactBestPlanSpec)

/-- 'laws.FnExactOrderPlan', WHERE WHAT IT READS IS OF BULK AT MOST 1048576: true; the input reads as it did. -/
def fnExactOrderPlanUptoRow : OpenClaim := { program := "ythgklolghalofabdoor", sum := "0b883e67223b46b9e3ced70e753a4465e34352b1e25af1d6a19212d85b4466da", func := "loop.example/checksinorder/laws.FnExactOrderPlan", spec := "fnExactOrderPlan", unfollowed := true, recurses := true, named := ["loop.example/checksinorder/impl.yesStates"], apart := false, laid := [("loop.example/checksinorder/impl.yesStates", laid_loop_example_checksinorder_impl_yesStates)], narrowed := true }
def FnExactOrderPlanUptoSaid : Prop := fnExactOrderPlanUptoRow.holds Tryd.pinned (OpenSpec.upto fnExactOrderPlanSpec)

/-- 'laws.FnExactPlanOk', WHERE WHAT IT READS IS OF BULK AT MOST 1048576: true; the input reads as it did. -/
def fnExactPlanOkUptoRow : OpenClaim := { program := "ythgklolghalofabdoor", sum := "0b883e67223b46b9e3ced70e753a4465e34352b1e25af1d6a19212d85b4466da", func := "loop.example/checksinorder/laws.FnExactPlanOk", spec := "fnExactPlanOk", unfollowed := true, recurses := true, named := ["loop.example/checksinorder/impl.yesStates"], apart := false, laid := [("loop.example/checksinorder/impl.yesStates", laid_loop_example_checksinorder_impl_yesStates)], narrowed := true }
def FnExactPlanOkUptoSaid : Prop := fnExactPlanOkUptoRow.holds Tryd.pinned (OpenSpec.upto fnExactPlanOkSpec)

/-- 'laws.FnExactCostBy', WHERE WHAT IT READS IS OF BULK AT MOST 1048576: true; the input reads as it did. -/
def fnExactCostByUptoRow : OpenClaim := { program := "ythgklolghalofabdoor", sum := "0b883e67223b46b9e3ced70e753a4465e34352b1e25af1d6a19212d85b4466da", func := "loop.example/checksinorder/laws.FnExactCostBy", spec := "fnExactCostBy", unfollowed := true, recurses := true, named := ["loop.example/checksinorder/impl.yesStates"], apart := false, laid := [("loop.example/checksinorder/impl.yesStates", laid_loop_example_checksinorder_impl_yesStates)], narrowed := true }
def FnExactCostByUptoSaid : Prop := fnExactCostByUptoRow.holds Tryd.pinned (OpenSpec.upto fnExactCostBySpec)

/-- 'laws.FnExactAverageBy', WHERE WHAT IT READS IS OF BULK AT MOST 1048576: true; the input reads as it did. -/
def fnExactAverageByUptoRow : OpenClaim := { program := "ythgklolghalofabdoor", sum := "0b883e67223b46b9e3ced70e753a4465e34352b1e25af1d6a19212d85b4466da", func := "loop.example/checksinorder/laws.FnExactAverageBy", spec := "fnExactAverageBy", unfollowed := true, recurses := true, named := ["loop.example/checksinorder/impl.yesStates"], apart := false, laid := [("loop.example/checksinorder/impl.yesStates", laid_loop_example_checksinorder_impl_yesStates)], narrowed := true }
def FnExactAverageByUptoSaid : Prop := fnExactAverageByUptoRow.holds Tryd.pinned (OpenSpec.upto fnExactAverageBySpec)

/-- 'laws.FnExactDepthOf', WHERE WHAT IT READS IS OF BULK AT MOST 1048576: true; the input reads as it did. -/
def fnExactDepthOfUptoRow : OpenClaim := { program := "ythgklolghalofabdoor", sum := "0b883e67223b46b9e3ced70e753a4465e34352b1e25af1d6a19212d85b4466da", func := "loop.example/checksinorder/laws.FnExactDepthOf", spec := "fnExactDepthOf", unfollowed := true, recurses := true, named := ["loop.example/checksinorder/impl.yesStates"], apart := false, laid := [("loop.example/checksinorder/impl.yesStates", laid_loop_example_checksinorder_impl_yesStates)], narrowed := true }
def FnExactDepthOfUptoSaid : Prop := fnExactDepthOfUptoRow.holds Tryd.pinned (OpenSpec.upto fnExactDepthOfSpec)

/-- 'laws.FnExactChoiceWeight', WHERE WHAT IT READS IS OF BULK AT MOST 1048576: true; the input reads as it did. -/
def fnExactChoiceWeightUptoRow : OpenClaim := { program := "ythgklolghalofabdoor", sum := "0b883e67223b46b9e3ced70e753a4465e34352b1e25af1d6a19212d85b4466da", func := "loop.example/checksinorder/laws.FnExactChoiceWeight", spec := "fnExactChoiceWeight", unfollowed := true, recurses := true, named := ["loop.example/checksinorder/impl.yesStates"], apart := false, laid := [("loop.example/checksinorder/impl.yesStates", laid_loop_example_checksinorder_impl_yesStates)], narrowed := true }
def FnExactChoiceWeightUptoSaid : Prop := fnExactChoiceWeightUptoRow.holds Tryd.pinned (OpenSpec.upto fnExactChoiceWeightSpec)

/-- 'laws.FnExactWorstBy', WHERE WHAT IT READS IS OF BULK AT MOST 1048576: true; the input reads as it did. -/
def fnExactWorstByUptoRow : OpenClaim := { program := "ythgklolghalofabdoor", sum := "0b883e67223b46b9e3ced70e753a4465e34352b1e25af1d6a19212d85b4466da", func := "loop.example/checksinorder/laws.FnExactWorstBy", spec := "fnExactWorstBy", unfollowed := true, recurses := true, named := ["loop.example/checksinorder/impl.yesStates"], apart := false, laid := [("loop.example/checksinorder/impl.yesStates", laid_loop_example_checksinorder_impl_yesStates)], narrowed := true }
def FnExactWorstByUptoSaid : Prop := fnExactWorstByUptoRow.holds Tryd.pinned (OpenSpec.upto fnExactWorstBySpec)

end Rows
end Go.Proofs.YthgklolghalofabDoor
