/-
  NARROWER THAN 'FOR EVERY INPUT', by the rows' own cells (each row's printed sentence says how): FnDearer: laid · FnDepthOf: laid · FnChoiceWeight: laid · FnWorstBy: laid · FnAverageBy: laid · FnPlanOk: laid · FnOrderPlan: laid · FnBestPlan: laid · FnBestAverage: laid · FnNoMatter: laid · FnOrdersAbove: laid · FnCostBy: laid · FnLeastDepth: laid.
  DERIVED. THE GIVEN ROWS OF THIS SEAT. 13 by the template 'for every input the law returns true; each argument reads behind the call as it read before'; 0 by the template 'total and deterministic' (their statements: YthgklolghalofaaDoorTotals.lean).
  GIVEN WITH THE SEED: the statements are not yours to turn. If you find one false, say at which input.
  Laid BY PROGRAM, IN A SANDBOX (cutbox-rows.mjs): the forced cells as the released guide's own fill.sh prints them over the translation 244333c3699e7bc8… (all of the seat's roots in one cut). By AI agents, Wed Nov 11 2026. No macro, syntax, notation, axiom, sorry.
-/
import Derived.Test.YthgklolghalofaaDoorChecked
import GoSem.Claim
import GoSem.ClaimJoined
import GoSem.ClaimMapViews
import Derived.JoinedTies
import Derived.KernelRfl
namespace Go.Proofs.YthgklolghalofaaDoor
/- THE CELL 'sum', in the pinned program and in every row, IS THE sha256 OF THE DUMP (.gsa) THAT YthgklolghalofaaDoorProg.lean LOADS. Nothing in Lean hashes anything: it is a label: what it is worth is what the hold of that sum in a sandbox is worth. -/
noncomputable def Tryd.pinned : Pinned := { name := "ythgklolghalofaadoor", sum := "244333c3699e7bc82644a9fefac6ba043f1a690360a2ca1b69e293a3a9274a2b", checked := Tryd.checked }
namespace Rows
def none {H : Type} : Left H := { results := [], args := [] }

/- WHAT THE LISTED PACKAGE-LEVEL VARIABLES READ AS WHEN THE CALL BEGINS. Each datum BY PROGRAM (the guide's laid-datum.mjs) off the statement by which the dump's own 'gosem.cut.vars' lays the variable. In a bare row this is a premise. The card (YthgklolghalofaaDoorCards.lean) ties it to the program's text. -/
def laid_loop_example_checksinorder_impl_yesStates {H : Type} : DataW H := .agg [.lit (.int .u32 2863311530), .lit (.int .u32 3435973836), .lit (.int .u32 4042322160), .lit (.int .u32 4278255360), .lit (.int .u32 4294901760)]

/-- 'laws.FnDearer': WHATEVER THE INPUT: true; the input reads as it did. -/
def fnDearerSpec : ChangeSpec := { name := "fnDearer", vars := ["loop.example/checksinorder/impl.yesStates"], fn := fun _ => fun
  | [d, g1] => { results := [.lit (.bool true)], args := [d], vars := [g1] }
  | _ => none }
def fnDearerRow : OpenClaim := { program := "ythgklolghalofaadoor", sum := "244333c3699e7bc82644a9fefac6ba043f1a690360a2ca1b69e293a3a9274a2b", func := "loop.example/checksinorder/laws.FnDearer", spec := "fnDearer", unfollowed := true, recurses := true, named := ["loop.example/checksinorder/impl.yesStates"], apart := false, laid := [("loop.example/checksinorder/impl.yesStates", laid_loop_example_checksinorder_impl_yesStates)] }
def FnDearerSaid : Prop := fnDearerRow.holds Tryd.pinned (OpenSpec.ofChange fnDearerSpec)

/-- ITS FALSE NEIGHBOUR: 'it returns false'. Refute it at one input. -/
def fnDearerWrong : ChangeSpec := { name := "fnDearer", vars := ["loop.example/checksinorder/impl.yesStates"], fn := fun _ => fun
  | [d, g1] => { results := [.lit (.bool false)], args := [d], vars := [g1] }
  | _ => none }
def FnDearerWrongFalsely : Prop := fnDearerRow.holds Tryd.pinned (OpenSpec.ofChange fnDearerWrong)

/-- 'laws.FnDepthOf': WHATEVER THE INPUT: true; the input reads as it did. -/
def fnDepthOfSpec : ChangeSpec := { name := "fnDepthOf", vars := ["loop.example/checksinorder/impl.yesStates"], fn := fun _ => fun
  | [d, g1] => { results := [.lit (.bool true)], args := [d], vars := [g1] }
  | _ => none }
def fnDepthOfRow : OpenClaim := { program := "ythgklolghalofaadoor", sum := "244333c3699e7bc82644a9fefac6ba043f1a690360a2ca1b69e293a3a9274a2b", func := "loop.example/checksinorder/laws.FnDepthOf", spec := "fnDepthOf", unfollowed := true, recurses := true, named := ["loop.example/checksinorder/impl.yesStates"], apart := false, laid := [("loop.example/checksinorder/impl.yesStates", laid_loop_example_checksinorder_impl_yesStates)] }
def FnDepthOfSaid : Prop := fnDepthOfRow.holds Tryd.pinned (OpenSpec.ofChange fnDepthOfSpec)

/-- ITS FALSE NEIGHBOUR: 'it returns false'. Refute it at one input. -/
def fnDepthOfWrong : ChangeSpec := { name := "fnDepthOf", vars := ["loop.example/checksinorder/impl.yesStates"], fn := fun _ => fun
  | [d, g1] => { results := [.lit (.bool false)], args := [d], vars := [g1] }
  | _ => none }
def FnDepthOfWrongFalsely : Prop := fnDepthOfRow.holds Tryd.pinned (OpenSpec.ofChange fnDepthOfWrong)

/-- 'laws.FnChoiceWeight': WHATEVER THE INPUT: true; the input reads as it did. -/
def fnChoiceWeightSpec : ChangeSpec := { name := "fnChoiceWeight", vars := ["loop.example/checksinorder/impl.yesStates"], fn := fun _ => fun
  | [d, g1] => { results := [.lit (.bool true)], args := [d], vars := [g1] }
  | _ => none }
def fnChoiceWeightRow : OpenClaim := { program := "ythgklolghalofaadoor", sum := "244333c3699e7bc82644a9fefac6ba043f1a690360a2ca1b69e293a3a9274a2b", func := "loop.example/checksinorder/laws.FnChoiceWeight", spec := "fnChoiceWeight", unfollowed := true, recurses := true, named := ["loop.example/checksinorder/impl.yesStates"], apart := false, laid := [("loop.example/checksinorder/impl.yesStates", laid_loop_example_checksinorder_impl_yesStates)] }
def FnChoiceWeightSaid : Prop := fnChoiceWeightRow.holds Tryd.pinned (OpenSpec.ofChange fnChoiceWeightSpec)

/-- ITS FALSE NEIGHBOUR: 'it returns false'. Refute it at one input. -/
def fnChoiceWeightWrong : ChangeSpec := { name := "fnChoiceWeight", vars := ["loop.example/checksinorder/impl.yesStates"], fn := fun _ => fun
  | [d, g1] => { results := [.lit (.bool false)], args := [d], vars := [g1] }
  | _ => none }
def FnChoiceWeightWrongFalsely : Prop := fnChoiceWeightRow.holds Tryd.pinned (OpenSpec.ofChange fnChoiceWeightWrong)

/-- 'laws.FnWorstBy': WHATEVER THE INPUT: true; the input reads as it did. -/
def fnWorstBySpec : ChangeSpec := { name := "fnWorstBy", vars := ["loop.example/checksinorder/impl.yesStates"], fn := fun _ => fun
  | [d, g1] => { results := [.lit (.bool true)], args := [d], vars := [g1] }
  | _ => none }
def fnWorstByRow : OpenClaim := { program := "ythgklolghalofaadoor", sum := "244333c3699e7bc82644a9fefac6ba043f1a690360a2ca1b69e293a3a9274a2b", func := "loop.example/checksinorder/laws.FnWorstBy", spec := "fnWorstBy", unfollowed := true, recurses := true, named := ["loop.example/checksinorder/impl.yesStates"], apart := false, laid := [("loop.example/checksinorder/impl.yesStates", laid_loop_example_checksinorder_impl_yesStates)] }
def FnWorstBySaid : Prop := fnWorstByRow.holds Tryd.pinned (OpenSpec.ofChange fnWorstBySpec)

/-- ITS FALSE NEIGHBOUR: 'it returns false'. Refute it at one input. -/
def fnWorstByWrong : ChangeSpec := { name := "fnWorstBy", vars := ["loop.example/checksinorder/impl.yesStates"], fn := fun _ => fun
  | [d, g1] => { results := [.lit (.bool false)], args := [d], vars := [g1] }
  | _ => none }
def FnWorstByWrongFalsely : Prop := fnWorstByRow.holds Tryd.pinned (OpenSpec.ofChange fnWorstByWrong)

/-- 'laws.FnAverageBy': WHATEVER THE INPUT: true; the input reads as it did. -/
def fnAverageBySpec : ChangeSpec := { name := "fnAverageBy", vars := ["loop.example/checksinorder/impl.yesStates"], fn := fun _ => fun
  | [d, g1] => { results := [.lit (.bool true)], args := [d], vars := [g1] }
  | _ => none }
def fnAverageByRow : OpenClaim := { program := "ythgklolghalofaadoor", sum := "244333c3699e7bc82644a9fefac6ba043f1a690360a2ca1b69e293a3a9274a2b", func := "loop.example/checksinorder/laws.FnAverageBy", spec := "fnAverageBy", unfollowed := true, recurses := true, named := ["loop.example/checksinorder/impl.yesStates"], apart := false, laid := [("loop.example/checksinorder/impl.yesStates", laid_loop_example_checksinorder_impl_yesStates)] }
def FnAverageBySaid : Prop := fnAverageByRow.holds Tryd.pinned (OpenSpec.ofChange fnAverageBySpec)

/-- ITS FALSE NEIGHBOUR: 'it returns false'. Refute it at one input. -/
def fnAverageByWrong : ChangeSpec := { name := "fnAverageBy", vars := ["loop.example/checksinorder/impl.yesStates"], fn := fun _ => fun
  | [d, g1] => { results := [.lit (.bool false)], args := [d], vars := [g1] }
  | _ => none }
def FnAverageByWrongFalsely : Prop := fnAverageByRow.holds Tryd.pinned (OpenSpec.ofChange fnAverageByWrong)

/-- 'laws.FnPlanOk': WHATEVER THE INPUT: true; the input reads as it did. -/
def fnPlanOkSpec : ChangeSpec := { name := "fnPlanOk", vars := ["loop.example/checksinorder/impl.yesStates"], fn := fun _ => fun
  | [d, g1] => { results := [.lit (.bool true)], args := [d], vars := [g1] }
  | _ => none }
def fnPlanOkRow : OpenClaim := { program := "ythgklolghalofaadoor", sum := "244333c3699e7bc82644a9fefac6ba043f1a690360a2ca1b69e293a3a9274a2b", func := "loop.example/checksinorder/laws.FnPlanOk", spec := "fnPlanOk", unfollowed := true, recurses := true, named := ["loop.example/checksinorder/impl.yesStates"], apart := false, laid := [("loop.example/checksinorder/impl.yesStates", laid_loop_example_checksinorder_impl_yesStates)] }
def FnPlanOkSaid : Prop := fnPlanOkRow.holds Tryd.pinned (OpenSpec.ofChange fnPlanOkSpec)

/-- ITS FALSE NEIGHBOUR: 'it returns false'. Refute it at one input. -/
def fnPlanOkWrong : ChangeSpec := { name := "fnPlanOk", vars := ["loop.example/checksinorder/impl.yesStates"], fn := fun _ => fun
  | [d, g1] => { results := [.lit (.bool false)], args := [d], vars := [g1] }
  | _ => none }
def FnPlanOkWrongFalsely : Prop := fnPlanOkRow.holds Tryd.pinned (OpenSpec.ofChange fnPlanOkWrong)

/-- 'laws.FnOrderPlan': WHATEVER THE INPUT: true; the input reads as it did. -/
def fnOrderPlanSpec : ChangeSpec := { name := "fnOrderPlan", vars := ["loop.example/checksinorder/impl.yesStates"], fn := fun _ => fun
  | [d1, d2, g1] => { results := [.lit (.bool true)], args := [d1, d2], vars := [g1] }
  | _ => none }
def fnOrderPlanRow : OpenClaim := { program := "ythgklolghalofaadoor", sum := "244333c3699e7bc82644a9fefac6ba043f1a690360a2ca1b69e293a3a9274a2b", func := "loop.example/checksinorder/laws.FnOrderPlan", spec := "fnOrderPlan", unfollowed := true, recurses := true, named := ["loop.example/checksinorder/impl.yesStates"], apart := false, laid := [("loop.example/checksinorder/impl.yesStates", laid_loop_example_checksinorder_impl_yesStates)] }
def FnOrderPlanSaid : Prop := fnOrderPlanRow.holds Tryd.pinned (OpenSpec.ofChange fnOrderPlanSpec)

/-- ITS FALSE NEIGHBOUR: 'it returns false'. Refute it at one input. -/
def fnOrderPlanWrong : ChangeSpec := { name := "fnOrderPlan", vars := ["loop.example/checksinorder/impl.yesStates"], fn := fun _ => fun
  | [d1, d2, g1] => { results := [.lit (.bool false)], args := [d1, d2], vars := [g1] }
  | _ => none }
def FnOrderPlanWrongFalsely : Prop := fnOrderPlanRow.holds Tryd.pinned (OpenSpec.ofChange fnOrderPlanWrong)

/-- 'laws.FnBestPlan': WHATEVER THE INPUT: true; the input reads as it did. -/
def fnBestPlanSpec : ChangeSpec := { name := "fnBestPlan", vars := ["loop.example/checksinorder/impl.yesStates"], fn := fun _ => fun
  | [d, g1] => { results := [.lit (.bool true)], args := [d], vars := [g1] }
  | _ => none }
def fnBestPlanRow : OpenClaim := { program := "ythgklolghalofaadoor", sum := "244333c3699e7bc82644a9fefac6ba043f1a690360a2ca1b69e293a3a9274a2b", func := "loop.example/checksinorder/laws.FnBestPlan", spec := "fnBestPlan", unfollowed := true, recurses := true, named := ["loop.example/checksinorder/impl.yesStates"], apart := false, laid := [("loop.example/checksinorder/impl.yesStates", laid_loop_example_checksinorder_impl_yesStates)] }
def FnBestPlanSaid : Prop := fnBestPlanRow.holds Tryd.pinned (OpenSpec.ofChange fnBestPlanSpec)

/-- ITS FALSE NEIGHBOUR: 'it returns false'. Refute it at one input. -/
def fnBestPlanWrong : ChangeSpec := { name := "fnBestPlan", vars := ["loop.example/checksinorder/impl.yesStates"], fn := fun _ => fun
  | [d, g1] => { results := [.lit (.bool false)], args := [d], vars := [g1] }
  | _ => none }
def FnBestPlanWrongFalsely : Prop := fnBestPlanRow.holds Tryd.pinned (OpenSpec.ofChange fnBestPlanWrong)

/-- 'laws.FnBestAverage': WHATEVER THE INPUT: true; the input reads as it did. -/
def fnBestAverageSpec : ChangeSpec := { name := "fnBestAverage", vars := ["loop.example/checksinorder/impl.yesStates"], fn := fun _ => fun
  | [d, g1] => { results := [.lit (.bool true)], args := [d], vars := [g1] }
  | _ => none }
def fnBestAverageRow : OpenClaim := { program := "ythgklolghalofaadoor", sum := "244333c3699e7bc82644a9fefac6ba043f1a690360a2ca1b69e293a3a9274a2b", func := "loop.example/checksinorder/laws.FnBestAverage", spec := "fnBestAverage", inPlace := ["slices.overlaps[int]"], unfollowed := true, recurses := true, named := ["loop.example/checksinorder/impl.yesStates"], apart := false, laid := [("loop.example/checksinorder/impl.yesStates", laid_loop_example_checksinorder_impl_yesStates)] }
def FnBestAverageSaid : Prop := fnBestAverageRow.holds Tryd.pinned (OpenSpec.ofChange fnBestAverageSpec)

/-- ITS FALSE NEIGHBOUR: 'it returns false'. Refute it at one input. -/
def fnBestAverageWrong : ChangeSpec := { name := "fnBestAverage", vars := ["loop.example/checksinorder/impl.yesStates"], fn := fun _ => fun
  | [d, g1] => { results := [.lit (.bool false)], args := [d], vars := [g1] }
  | _ => none }
def FnBestAverageWrongFalsely : Prop := fnBestAverageRow.holds Tryd.pinned (OpenSpec.ofChange fnBestAverageWrong)

/-- 'laws.FnNoMatter': WHATEVER THE INPUT: true; the input reads as it did. -/
def fnNoMatterSpec : ChangeSpec := { name := "fnNoMatter", vars := ["loop.example/checksinorder/impl.yesStates"], fn := fun _ => fun
  | [d, g1] => { results := [.lit (.bool true)], args := [d], vars := [g1] }
  | _ => none }
def fnNoMatterRow : OpenClaim := { program := "ythgklolghalofaadoor", sum := "244333c3699e7bc82644a9fefac6ba043f1a690360a2ca1b69e293a3a9274a2b", func := "loop.example/checksinorder/laws.FnNoMatter", spec := "fnNoMatter", unfollowed := true, recurses := true, named := ["loop.example/checksinorder/impl.yesStates"], apart := false, laid := [("loop.example/checksinorder/impl.yesStates", laid_loop_example_checksinorder_impl_yesStates)] }
def FnNoMatterSaid : Prop := fnNoMatterRow.holds Tryd.pinned (OpenSpec.ofChange fnNoMatterSpec)

/-- ITS FALSE NEIGHBOUR: 'it returns false'. Refute it at one input. -/
def fnNoMatterWrong : ChangeSpec := { name := "fnNoMatter", vars := ["loop.example/checksinorder/impl.yesStates"], fn := fun _ => fun
  | [d, g1] => { results := [.lit (.bool false)], args := [d], vars := [g1] }
  | _ => none }
def FnNoMatterWrongFalsely : Prop := fnNoMatterRow.holds Tryd.pinned (OpenSpec.ofChange fnNoMatterWrong)

/-- 'laws.FnOrdersAbove': WHATEVER THE INPUT: true; the input reads as it did. -/
def fnOrdersAboveSpec : ChangeSpec := { name := "fnOrdersAbove", vars := ["loop.example/checksinorder/impl.yesStates"], fn := fun _ => fun
  | [d, g1] => { results := [.lit (.bool true)], args := [d], vars := [g1] }
  | _ => none }
def fnOrdersAboveRow : OpenClaim := { program := "ythgklolghalofaadoor", sum := "244333c3699e7bc82644a9fefac6ba043f1a690360a2ca1b69e293a3a9274a2b", func := "loop.example/checksinorder/laws.FnOrdersAbove", spec := "fnOrdersAbove", unfollowed := true, recurses := true, named := ["loop.example/checksinorder/impl.yesStates"], apart := false, laid := [("loop.example/checksinorder/impl.yesStates", laid_loop_example_checksinorder_impl_yesStates)] }
def FnOrdersAboveSaid : Prop := fnOrdersAboveRow.holds Tryd.pinned (OpenSpec.ofChange fnOrdersAboveSpec)

/-- ITS FALSE NEIGHBOUR: 'it returns false'. Refute it at one input. -/
def fnOrdersAboveWrong : ChangeSpec := { name := "fnOrdersAbove", vars := ["loop.example/checksinorder/impl.yesStates"], fn := fun _ => fun
  | [d, g1] => { results := [.lit (.bool false)], args := [d], vars := [g1] }
  | _ => none }
def FnOrdersAboveWrongFalsely : Prop := fnOrdersAboveRow.holds Tryd.pinned (OpenSpec.ofChange fnOrdersAboveWrong)

/-- 'laws.FnCostBy': WHATEVER THE INPUT: true; the input reads as it did. -/
def fnCostBySpec : ChangeSpec := { name := "fnCostBy", vars := ["loop.example/checksinorder/impl.yesStates"], fn := fun _ => fun
  | [d, g1] => { results := [.lit (.bool true)], args := [d], vars := [g1] }
  | _ => none }
def fnCostByRow : OpenClaim := { program := "ythgklolghalofaadoor", sum := "244333c3699e7bc82644a9fefac6ba043f1a690360a2ca1b69e293a3a9274a2b", func := "loop.example/checksinorder/laws.FnCostBy", spec := "fnCostBy", unfollowed := true, recurses := true, named := ["loop.example/checksinorder/impl.yesStates"], apart := false, laid := [("loop.example/checksinorder/impl.yesStates", laid_loop_example_checksinorder_impl_yesStates)] }
def FnCostBySaid : Prop := fnCostByRow.holds Tryd.pinned (OpenSpec.ofChange fnCostBySpec)

/-- ITS FALSE NEIGHBOUR: 'it returns false'. Refute it at one input. -/
def fnCostByWrong : ChangeSpec := { name := "fnCostBy", vars := ["loop.example/checksinorder/impl.yesStates"], fn := fun _ => fun
  | [d, g1] => { results := [.lit (.bool false)], args := [d], vars := [g1] }
  | _ => none }
def FnCostByWrongFalsely : Prop := fnCostByRow.holds Tryd.pinned (OpenSpec.ofChange fnCostByWrong)

/-- 'laws.FnLeastDepth': WHATEVER THE INPUT: true; the input reads as it did. -/
def fnLeastDepthSpec : ChangeSpec := { name := "fnLeastDepth", vars := ["loop.example/checksinorder/impl.yesStates"], fn := fun _ => fun
  | [d, g1] => { results := [.lit (.bool true)], args := [d], vars := [g1] }
  | _ => none }
def fnLeastDepthRow : OpenClaim := { program := "ythgklolghalofaadoor", sum := "244333c3699e7bc82644a9fefac6ba043f1a690360a2ca1b69e293a3a9274a2b", func := "loop.example/checksinorder/laws.FnLeastDepth", spec := "fnLeastDepth", unfollowed := true, recurses := true, named := ["loop.example/checksinorder/impl.yesStates"], apart := false, laid := [("loop.example/checksinorder/impl.yesStates", laid_loop_example_checksinorder_impl_yesStates)] }
def FnLeastDepthSaid : Prop := fnLeastDepthRow.holds Tryd.pinned (OpenSpec.ofChange fnLeastDepthSpec)

/-- ITS FALSE NEIGHBOUR: 'it returns false'. Refute it at one input. -/
def fnLeastDepthWrong : ChangeSpec := { name := "fnLeastDepth", vars := ["loop.example/checksinorder/impl.yesStates"], fn := fun _ => fun
  | [d, g1] => { results := [.lit (.bool false)], args := [d], vars := [g1] }
  | _ => none }
def FnLeastDepthWrongFalsely : Prop := fnLeastDepthRow.holds Tryd.pinned (OpenSpec.ofChange fnLeastDepthWrong)

/- THE SECOND FORM. 'bulk': how many values and letters a reading holds, each counted each time it is reached (what is shared counts as often as it is met; a slice's spare places count too). A statement '..UptoSaid' is the law's where the arguments, and the package variables that the reading takes, are together of bulk at most 1048576: NARROWER than '..Said'. Prove '..Said' where nothing that the law and all that it calls make is longer than what came in: it says more and counts as full. Else prove '..UptoSaid'. A law counts once. -/
mutual
def uptoBulk {H : Type} : DataW H → Nat
  | .lit (.string bytes) => bytes.length + 1
  | .lit _ => 1
  | .nil => 1
  | .ptr d => uptoBulk d + 1
  | .slice elems spare => uptoBulkAll elems + uptoBulkAll spare + 1
  | .agg parts => uptoBulkAll parts + 1
  | .iface _ d => uptoBulk d + 1
  | .map entries => uptoBulkEntries entries + 1
  | .held _ => 1
def uptoBulkAll {H : Type} : List (DataW H) → Nat
  | [] => 0
  | d :: r => uptoBulk d + uptoBulkAll r
def uptoBulkEntries {H : Type} : List (Lit × DataW H) → Nat
  | [] => 0
  | x :: r => uptoBulkEntry x + uptoBulkEntries r
def uptoBulkEntry {H : Type} : Lit × DataW H → Nat
  | (.string bytes, d) => bytes.length + uptoBulk d + 1
  | (_, d) => uptoBulk d + 1
 end
def uptoSmall : (H : Type) → List (DataW H) → Bool := fun _ ds => decide (uptoBulkAll ds ≤ 1048576)
def OpenSpec.upto (s : _root_.Go.ChangeSpec) : _root_.Go.OpenSpec := { _root_.Go.OpenSpec.ofChange s with cond := some uptoSmall }

/-- 'laws.FnDearer', WHERE WHAT IT READS IS OF BULK AT MOST 1048576: true; the input reads as it did. -/
def fnDearerUptoRow : OpenClaim := { program := "ythgklolghalofaadoor", sum := "244333c3699e7bc82644a9fefac6ba043f1a690360a2ca1b69e293a3a9274a2b", func := "loop.example/checksinorder/laws.FnDearer", spec := "fnDearer", unfollowed := true, recurses := true, named := ["loop.example/checksinorder/impl.yesStates"], apart := false, laid := [("loop.example/checksinorder/impl.yesStates", laid_loop_example_checksinorder_impl_yesStates)], narrowed := true }
def FnDearerUptoSaid : Prop := fnDearerUptoRow.holds Tryd.pinned (OpenSpec.upto fnDearerSpec)

/-- 'laws.FnDepthOf', WHERE WHAT IT READS IS OF BULK AT MOST 1048576: true; the input reads as it did. -/
def fnDepthOfUptoRow : OpenClaim := { program := "ythgklolghalofaadoor", sum := "244333c3699e7bc82644a9fefac6ba043f1a690360a2ca1b69e293a3a9274a2b", func := "loop.example/checksinorder/laws.FnDepthOf", spec := "fnDepthOf", unfollowed := true, recurses := true, named := ["loop.example/checksinorder/impl.yesStates"], apart := false, laid := [("loop.example/checksinorder/impl.yesStates", laid_loop_example_checksinorder_impl_yesStates)], narrowed := true }
def FnDepthOfUptoSaid : Prop := fnDepthOfUptoRow.holds Tryd.pinned (OpenSpec.upto fnDepthOfSpec)

/-- 'laws.FnChoiceWeight', WHERE WHAT IT READS IS OF BULK AT MOST 1048576: true; the input reads as it did. -/
def fnChoiceWeightUptoRow : OpenClaim := { program := "ythgklolghalofaadoor", sum := "244333c3699e7bc82644a9fefac6ba043f1a690360a2ca1b69e293a3a9274a2b", func := "loop.example/checksinorder/laws.FnChoiceWeight", spec := "fnChoiceWeight", unfollowed := true, recurses := true, named := ["loop.example/checksinorder/impl.yesStates"], apart := false, laid := [("loop.example/checksinorder/impl.yesStates", laid_loop_example_checksinorder_impl_yesStates)], narrowed := true }
def FnChoiceWeightUptoSaid : Prop := fnChoiceWeightUptoRow.holds Tryd.pinned (OpenSpec.upto fnChoiceWeightSpec)

/-- 'laws.FnWorstBy', WHERE WHAT IT READS IS OF BULK AT MOST 1048576: true; the input reads as it did. -/
def fnWorstByUptoRow : OpenClaim := { program := "ythgklolghalofaadoor", sum := "244333c3699e7bc82644a9fefac6ba043f1a690360a2ca1b69e293a3a9274a2b", func := "loop.example/checksinorder/laws.FnWorstBy", spec := "fnWorstBy", unfollowed := true, recurses := true, named := ["loop.example/checksinorder/impl.yesStates"], apart := false, laid := [("loop.example/checksinorder/impl.yesStates", laid_loop_example_checksinorder_impl_yesStates)], narrowed := true }
def FnWorstByUptoSaid : Prop := fnWorstByUptoRow.holds Tryd.pinned (OpenSpec.upto fnWorstBySpec)

/-- 'laws.FnAverageBy', WHERE WHAT IT READS IS OF BULK AT MOST 1048576: true; the input reads as it did. -/
def fnAverageByUptoRow : OpenClaim := { program := "ythgklolghalofaadoor", sum := "244333c3699e7bc82644a9fefac6ba043f1a690360a2ca1b69e293a3a9274a2b", func := "loop.example/checksinorder/laws.FnAverageBy", spec := "fnAverageBy", unfollowed := true, recurses := true, named := ["loop.example/checksinorder/impl.yesStates"], apart := false, laid := [("loop.example/checksinorder/impl.yesStates", laid_loop_example_checksinorder_impl_yesStates)], narrowed := true }
def FnAverageByUptoSaid : Prop := fnAverageByUptoRow.holds Tryd.pinned (OpenSpec.upto fnAverageBySpec)

/-- 'laws.FnPlanOk', WHERE WHAT IT READS IS OF BULK AT MOST 1048576: true; the input reads as it did. -/
def fnPlanOkUptoRow : OpenClaim := { program := "ythgklolghalofaadoor", sum := "244333c3699e7bc82644a9fefac6ba043f1a690360a2ca1b69e293a3a9274a2b", func := "loop.example/checksinorder/laws.FnPlanOk", spec := "fnPlanOk", unfollowed := true, recurses := true, named := ["loop.example/checksinorder/impl.yesStates"], apart := false, laid := [("loop.example/checksinorder/impl.yesStates", laid_loop_example_checksinorder_impl_yesStates)], narrowed := true }
def FnPlanOkUptoSaid : Prop := fnPlanOkUptoRow.holds Tryd.pinned (OpenSpec.upto fnPlanOkSpec)

/-- 'laws.FnOrderPlan', WHERE WHAT IT READS IS OF BULK AT MOST 1048576: true; the input reads as it did. -/
def fnOrderPlanUptoRow : OpenClaim := { program := "ythgklolghalofaadoor", sum := "244333c3699e7bc82644a9fefac6ba043f1a690360a2ca1b69e293a3a9274a2b", func := "loop.example/checksinorder/laws.FnOrderPlan", spec := "fnOrderPlan", unfollowed := true, recurses := true, named := ["loop.example/checksinorder/impl.yesStates"], apart := false, laid := [("loop.example/checksinorder/impl.yesStates", laid_loop_example_checksinorder_impl_yesStates)], narrowed := true }
def FnOrderPlanUptoSaid : Prop := fnOrderPlanUptoRow.holds Tryd.pinned (OpenSpec.upto fnOrderPlanSpec)

/-- 'laws.FnBestPlan', WHERE WHAT IT READS IS OF BULK AT MOST 1048576: true; the input reads as it did. -/
def fnBestPlanUptoRow : OpenClaim := { program := "ythgklolghalofaadoor", sum := "244333c3699e7bc82644a9fefac6ba043f1a690360a2ca1b69e293a3a9274a2b", func := "loop.example/checksinorder/laws.FnBestPlan", spec := "fnBestPlan", unfollowed := true, recurses := true, named := ["loop.example/checksinorder/impl.yesStates"], apart := false, laid := [("loop.example/checksinorder/impl.yesStates", laid_loop_example_checksinorder_impl_yesStates)], narrowed := true }
def FnBestPlanUptoSaid : Prop := fnBestPlanUptoRow.holds Tryd.pinned (OpenSpec.upto fnBestPlanSpec)

/-- 'laws.FnBestAverage', WHERE WHAT IT READS IS OF BULK AT MOST 1048576: true; the input reads as it did. -/
def fnBestAverageUptoRow : OpenClaim := { program := "ythgklolghalofaadoor", sum := "244333c3699e7bc82644a9fefac6ba043f1a690360a2ca1b69e293a3a9274a2b", func := "loop.example/checksinorder/laws.FnBestAverage", spec := "fnBestAverage", inPlace := ["slices.overlaps[int]"], unfollowed := true, recurses := true, named := ["loop.example/checksinorder/impl.yesStates"], apart := false, laid := [("loop.example/checksinorder/impl.yesStates", laid_loop_example_checksinorder_impl_yesStates)], narrowed := true }
def FnBestAverageUptoSaid : Prop := fnBestAverageUptoRow.holds Tryd.pinned (OpenSpec.upto fnBestAverageSpec)

/-- 'laws.FnNoMatter', WHERE WHAT IT READS IS OF BULK AT MOST 1048576: true; the input reads as it did. -/
def fnNoMatterUptoRow : OpenClaim := { program := "ythgklolghalofaadoor", sum := "244333c3699e7bc82644a9fefac6ba043f1a690360a2ca1b69e293a3a9274a2b", func := "loop.example/checksinorder/laws.FnNoMatter", spec := "fnNoMatter", unfollowed := true, recurses := true, named := ["loop.example/checksinorder/impl.yesStates"], apart := false, laid := [("loop.example/checksinorder/impl.yesStates", laid_loop_example_checksinorder_impl_yesStates)], narrowed := true }
def FnNoMatterUptoSaid : Prop := fnNoMatterUptoRow.holds Tryd.pinned (OpenSpec.upto fnNoMatterSpec)

/-- 'laws.FnOrdersAbove', WHERE WHAT IT READS IS OF BULK AT MOST 1048576: true; the input reads as it did. -/
def fnOrdersAboveUptoRow : OpenClaim := { program := "ythgklolghalofaadoor", sum := "244333c3699e7bc82644a9fefac6ba043f1a690360a2ca1b69e293a3a9274a2b", func := "loop.example/checksinorder/laws.FnOrdersAbove", spec := "fnOrdersAbove", unfollowed := true, recurses := true, named := ["loop.example/checksinorder/impl.yesStates"], apart := false, laid := [("loop.example/checksinorder/impl.yesStates", laid_loop_example_checksinorder_impl_yesStates)], narrowed := true }
def FnOrdersAboveUptoSaid : Prop := fnOrdersAboveUptoRow.holds Tryd.pinned (OpenSpec.upto fnOrdersAboveSpec)

/-- 'laws.FnCostBy', WHERE WHAT IT READS IS OF BULK AT MOST 1048576: true; the input reads as it did. -/
def fnCostByUptoRow : OpenClaim := { program := "ythgklolghalofaadoor", sum := "244333c3699e7bc82644a9fefac6ba043f1a690360a2ca1b69e293a3a9274a2b", func := "loop.example/checksinorder/laws.FnCostBy", spec := "fnCostBy", unfollowed := true, recurses := true, named := ["loop.example/checksinorder/impl.yesStates"], apart := false, laid := [("loop.example/checksinorder/impl.yesStates", laid_loop_example_checksinorder_impl_yesStates)], narrowed := true }
def FnCostByUptoSaid : Prop := fnCostByUptoRow.holds Tryd.pinned (OpenSpec.upto fnCostBySpec)

/-- 'laws.FnLeastDepth', WHERE WHAT IT READS IS OF BULK AT MOST 1048576: true; the input reads as it did. -/
def fnLeastDepthUptoRow : OpenClaim := { program := "ythgklolghalofaadoor", sum := "244333c3699e7bc82644a9fefac6ba043f1a690360a2ca1b69e293a3a9274a2b", func := "loop.example/checksinorder/laws.FnLeastDepth", spec := "fnLeastDepth", unfollowed := true, recurses := true, named := ["loop.example/checksinorder/impl.yesStates"], apart := false, laid := [("loop.example/checksinorder/impl.yesStates", laid_loop_example_checksinorder_impl_yesStates)], narrowed := true }
def FnLeastDepthUptoSaid : Prop := fnLeastDepthUptoRow.holds Tryd.pinned (OpenSpec.upto fnLeastDepthSpec)

end Rows
end Go.Proofs.YthgklolghalofaaDoor
