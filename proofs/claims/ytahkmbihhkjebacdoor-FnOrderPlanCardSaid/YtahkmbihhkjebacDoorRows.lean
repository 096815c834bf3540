/-
  NARROWER THAN 'FOR EVERY INPUT', by the rows' own cells (each row's printed sentence says how): FnAverageBy: laid · FnBestPlan: laid · FnDepthOf: laid · FnNoMatter: laid · FnOrderPlan: laid · FnOrdersAbove: laid.
  DERIVED. THE GIVEN ROWS OF THIS SEAT. 6 by the template 'for every input the law returns true; each argument reads behind the call as it read before'; 0 by the template 'total and deterministic' (their statements: YtahkmbihhkjebacDoorTotals.lean).
  GIVEN WITH THE SEED: the statements are not yours to turn. If you find one false, say at which input.
  Laid BY PROGRAM, IN A SANDBOX (cutbox-rows.mjs): the forced cells as the released guide's own fill.sh prints them over the translation 86b26961398e059e… (all of the seat's roots in one cut). By AI agents, Wed Nov 11 2026. No macro, syntax, notation, axiom, sorry.
-/
import Derived.Test.YtahkmbihhkjebacDoorChecked
import GoSem.Claim
import GoSem.ClaimJoined
import GoSem.ClaimMapViews
import Derived.JoinedTies
import Derived.KernelRfl
namespace Go.Proofs.YtahkmbihhkjebacDoor
/- THE CELL 'sum', in the pinned program and in every row, IS THE sha256 OF THE DUMP (.gsa) THAT YtahkmbihhkjebacDoorProg.lean LOADS. Nothing in Lean hashes anything: it is a label: what it is worth is what the hold of that sum in a sandbox is worth. -/
noncomputable def Tryd.pinned : Pinned := { name := "ytahkmbihhkjebacdoor", sum := "86b26961398e059eb5497fedadd1691604c77da163669a518e6df1d41eb66a51", checked := Tryd.checked }
namespace Rows
def none {H : Type} : Left H := { results := [], args := [] }

/- WHAT THE LISTED PACKAGE-LEVEL VARIABLES READ AS WHEN THE CALL BEGINS. Each datum BY PROGRAM (the guide's laid-datum.mjs) off the statement by which the dump's own 'gosem.cut.vars' lays the variable. In a bare row this is a premise. The card (YtahkmbihhkjebacDoorCards.lean) ties it to the program's text. -/
def laid_loop_example_checksinorder_impl_yesStates {H : Type} : DataW H := .agg [.lit (.int .u32 2863311530), .lit (.int .u32 3435973836), .lit (.int .u32 4042322160), .lit (.int .u32 4278255360), .lit (.int .u32 4294901760)]

/-- 'laws.FnAverageBy': WHATEVER THE INPUT: true; the input reads as it did. -/
def fnAverageBySpec : ChangeSpec := { name := "fnAverageBy", vars := ["loop.example/checksinorder/impl.yesStates"], fn := fun _ => fun
  | [d, g1] => { results := [.lit (.bool true)], args := [d], vars := [g1] }
  | _ => none }
def fnAverageByRow : OpenClaim := { program := "ytahkmbihhkjebacdoor", sum := "86b26961398e059eb5497fedadd1691604c77da163669a518e6df1d41eb66a51", func := "loop.example/checksinorder/laws.FnAverageBy", spec := "fnAverageBy", unfollowed := true, recurses := true, named := ["loop.example/checksinorder/impl.yesStates"], apart := false, laid := [("loop.example/checksinorder/impl.yesStates", laid_loop_example_checksinorder_impl_yesStates)] }
def FnAverageBySaid : Prop := fnAverageByRow.holds Tryd.pinned (OpenSpec.ofChange fnAverageBySpec)

/-- ITS FALSE NEIGHBOUR: 'it returns false'. Refute it at one input. -/
def fnAverageByWrong : ChangeSpec := { name := "fnAverageBy", vars := ["loop.example/checksinorder/impl.yesStates"], fn := fun _ => fun
  | [d, g1] => { results := [.lit (.bool false)], args := [d], vars := [g1] }
  | _ => none }
def FnAverageByWrongFalsely : Prop := fnAverageByRow.holds Tryd.pinned (OpenSpec.ofChange fnAverageByWrong)

/-- 'laws.FnBestPlan': WHATEVER THE INPUT: true; the input reads as it did. -/
def fnBestPlanSpec : ChangeSpec := { name := "fnBestPlan", vars := ["loop.example/checksinorder/impl.yesStates"], fn := fun _ => fun
  | [d, g1] => { results := [.lit (.bool true)], args := [d], vars := [g1] }
  | _ => none }
def fnBestPlanRow : OpenClaim := { program := "ytahkmbihhkjebacdoor", sum := "86b26961398e059eb5497fedadd1691604c77da163669a518e6df1d41eb66a51", func := "loop.example/checksinorder/laws.FnBestPlan", spec := "fnBestPlan", unfollowed := true, recurses := true, named := ["loop.example/checksinorder/impl.yesStates"], apart := false, laid := [("loop.example/checksinorder/impl.yesStates", laid_loop_example_checksinorder_impl_yesStates)] }
def FnBestPlanSaid : Prop := fnBestPlanRow.holds Tryd.pinned (OpenSpec.ofChange fnBestPlanSpec)

/-- ITS FALSE NEIGHBOUR: 'it returns false'. Refute it at one input. -/
def fnBestPlanWrong : ChangeSpec := { name := "fnBestPlan", vars := ["loop.example/checksinorder/impl.yesStates"], fn := fun _ => fun
  | [d, g1] => { results := [.lit (.bool false)], args := [d], vars := [g1] }
  | _ => none }
def FnBestPlanWrongFalsely : Prop := fnBestPlanRow.holds Tryd.pinned (OpenSpec.ofChange fnBestPlanWrong)

/-- 'laws.FnDepthOf': WHATEVER THE INPUT: true; the input reads as it did. -/
def fnDepthOfSpec : ChangeSpec := { name := "fnDepthOf", vars := ["loop.example/checksinorder/impl.yesStates"], fn := fun _ => fun
  | [d, g1] => { results := [.lit (.bool true)], args := [d], vars := [g1] }
  | _ => none }
def fnDepthOfRow : OpenClaim := { program := "ytahkmbihhkjebacdoor", sum := "86b26961398e059eb5497fedadd1691604c77da163669a518e6df1d41eb66a51", func := "loop.example/checksinorder/laws.FnDepthOf", spec := "fnDepthOf", unfollowed := true, recurses := true, named := ["loop.example/checksinorder/impl.yesStates"], apart := false, laid := [("loop.example/checksinorder/impl.yesStates", laid_loop_example_checksinorder_impl_yesStates)] }
def FnDepthOfSaid : Prop := fnDepthOfRow.holds Tryd.pinned (OpenSpec.ofChange fnDepthOfSpec)

/-- ITS FALSE NEIGHBOUR: 'it returns false'. Refute it at one input. -/
def fnDepthOfWrong : ChangeSpec := { name := "fnDepthOf", vars := ["loop.example/checksinorder/impl.yesStates"], fn := fun _ => fun
  | [d, g1] => { results := [.lit (.bool false)], args := [d], vars := [g1] }
  | _ => none }
def FnDepthOfWrongFalsely : Prop := fnDepthOfRow.holds Tryd.pinned (OpenSpec.ofChange fnDepthOfWrong)

/-- 'laws.FnNoMatter': WHATEVER THE INPUT: true; the input reads as it did. -/
def fnNoMatterSpec : ChangeSpec := { name := "fnNoMatter", vars := ["loop.example/checksinorder/impl.yesStates"], fn := fun _ => fun
  | [d, g1] => { results := [.lit (.bool true)], args := [d], vars := [g1] }
  | _ => none }
def fnNoMatterRow : OpenClaim := { program := "ytahkmbihhkjebacdoor", sum := "86b26961398e059eb5497fedadd1691604c77da163669a518e6df1d41eb66a51", func := "loop.example/checksinorder/laws.FnNoMatter", spec := "fnNoMatter", unfollowed := true, recurses := true, named := ["loop.example/checksinorder/impl.yesStates"], apart := false, laid := [("loop.example/checksinorder/impl.yesStates", laid_loop_example_checksinorder_impl_yesStates)] }
def FnNoMatterSaid : Prop := fnNoMatterRow.holds Tryd.pinned (OpenSpec.ofChange fnNoMatterSpec)

/-- ITS FALSE NEIGHBOUR: 'it returns false'. Refute it at one input. -/
def fnNoMatterWrong : ChangeSpec := { name := "fnNoMatter", vars := ["loop.example/checksinorder/impl.yesStates"], fn := fun _ => fun
  | [d, g1] => { results := [.lit (.bool false)], args := [d], vars := [g1] }
  | _ => none }
def FnNoMatterWrongFalsely : Prop := fnNoMatterRow.holds Tryd.pinned (OpenSpec.ofChange fnNoMatterWrong)

/-- 'laws.FnOrderPlan': WHATEVER THE INPUT: true; the input reads as it did. -/
def fnOrderPlanSpec : ChangeSpec := { name := "fnOrderPlan", vars := ["loop.example/checksinorder/impl.yesStates"], fn := fun _ => fun
  | [d1, d2, g1] => { results := [.lit (.bool true)], args := [d1, d2], vars := [g1] }
  | _ => none }
def fnOrderPlanRow : OpenClaim := { program := "ytahkmbihhkjebacdoor", sum := "86b26961398e059eb5497fedadd1691604c77da163669a518e6df1d41eb66a51", func := "loop.example/checksinorder/laws.FnOrderPlan", spec := "fnOrderPlan", unfollowed := true, recurses := true, named := ["loop.example/checksinorder/impl.yesStates"], apart := false, laid := [("loop.example/checksinorder/impl.yesStates", laid_loop_example_checksinorder_impl_yesStates)] }
def FnOrderPlanSaid : Prop := fnOrderPlanRow.holds Tryd.pinned (OpenSpec.ofChange fnOrderPlanSpec)

/-- ITS FALSE NEIGHBOUR: 'it returns false'. Refute it at one input. -/
def fnOrderPlanWrong : ChangeSpec := { name := "fnOrderPlan", vars := ["loop.example/checksinorder/impl.yesStates"], fn := fun _ => fun
  | [d1, d2, g1] => { results := [.lit (.bool false)], args := [d1, d2], vars := [g1] }
  | _ => none }
def FnOrderPlanWrongFalsely : Prop := fnOrderPlanRow.holds Tryd.pinned (OpenSpec.ofChange fnOrderPlanWrong)

/-- 'laws.FnOrdersAbove': WHATEVER THE INPUT: true; the input reads as it did. -/
def fnOrdersAboveSpec : ChangeSpec := { name := "fnOrdersAbove", vars := ["loop.example/checksinorder/impl.yesStates"], fn := fun _ => fun
  | [d, g1] => { results := [.lit (.bool true)], args := [d], vars := [g1] }
  | _ => none }
def fnOrdersAboveRow : OpenClaim := { program := "ytahkmbihhkjebacdoor", sum := "86b26961398e059eb5497fedadd1691604c77da163669a518e6df1d41eb66a51", func := "loop.example/checksinorder/laws.FnOrdersAbove", spec := "fnOrdersAbove", unfollowed := true, recurses := true, named := ["loop.example/checksinorder/impl.yesStates"], apart := false, laid := [("loop.example/checksinorder/impl.yesStates", laid_loop_example_checksinorder_impl_yesStates)] }
def FnOrdersAboveSaid : Prop := fnOrdersAboveRow.holds Tryd.pinned (OpenSpec.ofChange fnOrdersAboveSpec)

/-- ITS FALSE NEIGHBOUR: 'it returns false'. Refute it at one input. -/
def fnOrdersAboveWrong : ChangeSpec := { name := "fnOrdersAbove", vars := ["loop.example/checksinorder/impl.yesStates"], fn := fun _ => fun
  | [d, g1] => { results := [.lit (.bool false)], args := [d], vars := [g1] }
  | _ => none }
def FnOrdersAboveWrongFalsely : Prop := fnOrdersAboveRow.holds Tryd.pinned (OpenSpec.ofChange fnOrdersAboveWrong)

/- THE SECOND FORM. 'bulk': how many values and letters a reading holds, each counted each time it is reached (what is shared counts as often as it is met; a slice's spare places count too). A statement '..UptoSaid' is the law's where the arguments, and the package variables that the reading takes, are together of bulk at most 1048576: NARROWER than '..Said'. Prove '..Said' where nothing that the law and all that it calls make is longer than what came in: it says more and counts as full. Else prove '..UptoSaid'. A law counts once. -/
mutual
def uptoBulk {H : Type} : DataW H → Nat
  | .lit (.string bytes) => bytes.length + 1
  | .lit _ => 1
  | .nil => 1
  | .ptr d => uptoBulk d + 1
  | .slice elems spare => uptoBulkAll elems + uptoBulkAll spare + 1
  | .agg parts => uptoBulkAll parts + 1
  | .iface _ d => uptoBulk d + 1
  | .map entries => uptoBulkEntries entries + 1
  | .held _ => 1
def uptoBulkAll {H : Type} : List (DataW H) → Nat
  | [] => 0
  | d :: r => uptoBulk d + uptoBulkAll r
def uptoBulkEntries {H : Type} : List (Lit × DataW H) → Nat
  | [] => 0
  | x :: r => uptoBulkEntry x + uptoBulkEntries r
def uptoBulkEntry {H : Type} : Lit × DataW H → Nat
  | (.string bytes, d) => bytes.length + uptoBulk d + 1
  | (_, d) => uptoBulk d + 1
 end
def uptoSmall : (H : Type) → List (DataW H) → Bool := fun _ ds => decide (uptoBulkAll ds ≤ 1048576)
def OpenSpec.upto (s : _root_.Go.ChangeSpec) : _root_.Go.OpenSpec := { _root_.Go.OpenSpec.ofChange s with cond := some uptoSmall }

/-- 'laws.FnAverageBy', WHERE WHAT IT READS IS OF BULK AT MOST 1048576: true; the input reads as it did. -/
def fnAverageByUptoRow : OpenClaim := { program := "ytahkmbihhkjebacdoor", sum := "86b26961398e059eb5497fedadd1691604c77da163669a518e6df1d41eb66a51", func := "loop.example/checksinorder/laws.FnAverageBy", spec := "fnAverageBy", unfollowed := true, recurses := true, named := ["loop.example/checksinorder/impl.yesStates"], apart := false, laid := [("loop.example/checksinorder/impl.yesStates", laid_loop_example_checksinorder_impl_yesStates)], narrowed := true }
def FnAverageByUptoSaid : Prop := fnAverageByUptoRow.holds Tryd.pinned (OpenSpec.upto fnAverageBySpec)

/-- 'laws.FnBestPlan', WHERE WHAT IT READS IS OF BULK AT MOST 1048576: true; the input reads as it did. -/
def fnBestPlanUptoRow : OpenClaim := { program := "ytahkmbihhkjebacdoor", sum := "86b26961398e059eb5497fedadd1691604c77da163669a518e6df1d41eb66a51", func := "loop.example/checksinorder/laws.FnBestPlan", spec := "fnBestPlan", unfollowed := true, recurses := true, named := ["loop.example/checksinorder/impl.yesStates"], apart := false, laid := [("loop.example/checksinorder/impl.yesStates", laid_loop_example_checksinorder_impl_yesStates)], narrowed := true }
def FnBestPlanUptoSaid : Prop := fnBestPlanUptoRow.holds Tryd.pinned (OpenSpec.upto fnBestPlanSpec)

/-- 'laws.FnDepthOf', WHERE WHAT IT READS IS OF BULK AT MOST 1048576: true; the input reads as it did. -/
def fnDepthOfUptoRow : OpenClaim := { program := "ytahkmbihhkjebacdoor", sum := "86b26961398e059eb5497fedadd1691604c77da163669a518e6df1d41eb66a51", func := "loop.example/checksinorder/laws.FnDepthOf", spec := "fnDepthOf", unfollowed := true, recurses := true, named := ["loop.example/checksinorder/impl.yesStates"], apart := false, laid := [("loop.example/checksinorder/impl.yesStates", laid_loop_example_checksinorder_impl_yesStates)], narrowed := true }
def FnDepthOfUptoSaid : Prop := fnDepthOfUptoRow.holds Tryd.pinned (OpenSpec.upto fnDepthOfSpec)

/-- 'laws.FnNoMatter', WHERE WHAT IT READS IS OF BULK AT MOST 1048576: true; the input reads as it did. -/
def fnNoMatterUptoRow : OpenClaim := { program := "ytahkmbihhkjebacdoor", sum := "86b26961398e059eb5497fedadd1691604c77da163669a518e6df1d41eb66a51", func := "loop.example/checksinorder/laws.FnNoMatter", spec := "fnNoMatter", unfollowed := true, recurses := true, named := ["loop.example/checksinorder/impl.yesStates"], apart := false, laid := [("loop.example/checksinorder/impl.yesStates", laid_loop_example_checksinorder_impl_yesStates)], narrowed := true }
def FnNoMatterUptoSaid : Prop := fnNoMatterUptoRow.holds Tryd.pinned (OpenSpec.upto fnNoMatterSpec)

/-- 'laws.FnOrderPlan', WHERE WHAT IT READS IS OF BULK AT MOST 1048576: true; the input reads as it did. -/
def fnOrderPlanUptoRow : OpenClaim := { program := "ytahkmbihhkjebacdoor", sum := "86b26961398e059eb5497fedadd1691604c77da163669a518e6df1d41eb66a51", func := "loop.example/checksinorder/laws.FnOrderPlan", spec := "fnOrderPlan", unfollowed := true, recurses := true, named := ["loop.example/checksinorder/impl.yesStates"], apart := false, laid := [("loop.example/checksinorder/impl.yesStates", laid_loop_example_checksinorder_impl_yesStates)], narrowed := true }
def FnOrderPlanUptoSaid : Prop := fnOrderPlanUptoRow.holds Tryd.pinned (OpenSpec.upto fnOrderPlanSpec)

/-- 'laws.FnOrdersAbove', WHERE WHAT IT READS IS OF BULK AT MOST 1048576: true; the input reads as it did. -/
def fnOrdersAboveUptoRow : OpenClaim := { program := "ytahkmbihhkjebacdoor", sum := "86b26961398e059eb5497fedadd1691604c77da163669a518e6df1d41eb66a51", func := "loop.example/checksinorder/laws.FnOrdersAbove", spec := "fnOrdersAbove", unfollowed := true, recurses := true, named := ["loop.example/checksinorder/impl.yesStates"], apart := false, laid := [("loop.example/checksinorder/impl.yesStates", laid_loop_example_checksinorder_impl_yesStates)], narrowed := true }
def FnOrdersAboveUptoSaid : Prop := fnOrdersAboveUptoRow.holds Tryd.pinned (OpenSpec.upto fnOrdersAboveSpec)

end Rows
end Go.Proofs.YtahkmbihhkjebacDoor
