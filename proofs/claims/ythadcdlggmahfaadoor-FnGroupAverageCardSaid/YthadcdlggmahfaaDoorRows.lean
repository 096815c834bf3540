/-
  NARROWER THAN 'FOR EVERY INPUT', by the rows' own cells (each row's printed sentence says how): FnGroupTerm: laid · FnGroupAverage: laid · FnGroupPlan: laid · FnGroupsTrue: laid · FnGroupsDual: laid.
  DERIVED. THE GIVEN ROWS OF THIS SEAT. 5 by the template 'for every input the law returns true; each argument reads behind the call as it read before'; 0 by the template 'total and deterministic' (their statements: YthadcdlggmahfaaDoorTotals.lean).
  GIVEN WITH THE SEED: the statements are not yours to turn. If you find one false, say at which input.
  Laid BY PROGRAM, IN A SANDBOX (cutbox-rows.mjs): the forced cells as the released guide's own fill.sh prints them over the translation dca050fc3e7c37ea… (all of the seat's roots in one cut). By AI agents, Wed Nov 11 2026. No macro, syntax, notation, axiom, sorry.
-/
import Derived.Test.YthadcdlggmahfaaDoorChecked
import GoSem.Claim
import GoSem.ClaimJoined
import GoSem.ClaimMapViews
import Derived.JoinedTies
import Derived.KernelRfl
namespace Go.Proofs.YthadcdlggmahfaaDoor
/- THE CELL 'sum', in the pinned program and in every row, IS THE sha256 OF THE DUMP (.gsa) THAT YthadcdlggmahfaaDoorProg.lean LOADS. Nothing in Lean hashes anything: it is a label: what it is worth is what the hold of that sum in a sandbox is worth. -/
noncomputable def Tryd.pinned : Pinned := { name := "ythadcdlggmahfaadoor", sum := "dca050fc3e7c37eab3b3855a700811936289ccd2c5b26125232fc8f48983fdda", checked := Tryd.checked }
namespace Rows
def none {H : Type} : Left H := { results := [], args := [] }

/- WHAT THE LISTED PACKAGE-LEVEL VARIABLES READ AS WHEN THE CALL BEGINS. Each datum BY PROGRAM (the guide's laid-datum.mjs) off the statement by which the dump's own 'gosem.cut.vars' lays the variable. In a bare row this is a premise. The card (YthadcdlggmahfaaDoorCards.lean) ties it to the program's text. -/
def laid_loop_example_checksinorder_impl_yesStates {H : Type} : DataW H := .agg [.lit (.int .u32 2863311530), .lit (.int .u32 3435973836), .lit (.int .u32 4042322160), .lit (.int .u32 4278255360), .lit (.int .u32 4294901760)]

/-- 'laws.FnGroupTerm': WHATEVER THE INPUT: true; the input reads as it did. -/
def fnGroupTermSpec : ChangeSpec := { name := "fnGroupTerm", vars := ["loop.example/checksinorder/impl.yesStates"], fn := fun _ => fun
  | [d, g1] => { results := [.lit (.bool true)], args := [d], vars := [g1] }
  | _ => none }
def fnGroupTermRow : OpenClaim := { program := "ythadcdlggmahfaadoor", sum := "dca050fc3e7c37eab3b3855a700811936289ccd2c5b26125232fc8f48983fdda", func := "loop.example/checksinorder/laws.FnGroupTerm", spec := "fnGroupTerm", unfollowed := true, recurses := true, named := ["loop.example/checksinorder/impl.yesStates"], apart := false, laid := [("loop.example/checksinorder/impl.yesStates", laid_loop_example_checksinorder_impl_yesStates)] }
def FnGroupTermSaid : Prop := fnGroupTermRow.holds Tryd.pinned (OpenSpec.ofChange fnGroupTermSpec)

/-- ITS FALSE NEIGHBOUR: 'it returns false'. Refute it at one input. -/
def fnGroupTermWrong : ChangeSpec := { name := "fnGroupTerm", vars := ["loop.example/checksinorder/impl.yesStates"], fn := fun _ => fun
  | [d, g1] => { results := [.lit (.bool false)], args := [d], vars := [g1] }
  | _ => none }
def FnGroupTermWrongFalsely : Prop := fnGroupTermRow.holds Tryd.pinned (OpenSpec.ofChange fnGroupTermWrong)

/-- 'laws.FnGroupAverage': WHATEVER THE INPUT: true; the input reads as it did. -/
def fnGroupAverageSpec : ChangeSpec := { name := "fnGroupAverage", vars := ["loop.example/checksinorder/impl.yesStates"], fn := fun _ => fun
  | [d, g1] => { results := [.lit (.bool true)], args := [d], vars := [g1] }
  | _ => none }
def fnGroupAverageRow : OpenClaim := { program := "ythadcdlggmahfaadoor", sum := "dca050fc3e7c37eab3b3855a700811936289ccd2c5b26125232fc8f48983fdda", func := "loop.example/checksinorder/laws.FnGroupAverage", spec := "fnGroupAverage", inPlace := ["slices.overlaps[int]", "slices.overlaps[loop.example/checksinorder/impl.askedGroup]"], unfollowed := true, recurses := true, named := ["loop.example/checksinorder/impl.yesStates"], apart := false, laid := [("loop.example/checksinorder/impl.yesStates", laid_loop_example_checksinorder_impl_yesStates)] }
def FnGroupAverageSaid : Prop := fnGroupAverageRow.holds Tryd.pinned (OpenSpec.ofChange fnGroupAverageSpec)

/-- ITS FALSE NEIGHBOUR: 'it returns false'. Refute it at one input. -/
def fnGroupAverageWrong : ChangeSpec := { name := "fnGroupAverage", vars := ["loop.example/checksinorder/impl.yesStates"], fn := fun _ => fun
  | [d, g1] => { results := [.lit (.bool false)], args := [d], vars := [g1] }
  | _ => none }
def FnGroupAverageWrongFalsely : Prop := fnGroupAverageRow.holds Tryd.pinned (OpenSpec.ofChange fnGroupAverageWrong)

/-- 'laws.FnGroupPlan': WHATEVER THE INPUT: true; the input reads as it did. -/
def fnGroupPlanSpec : ChangeSpec := { name := "fnGroupPlan", vars := ["loop.example/checksinorder/impl.yesStates"], fn := fun _ => fun
  | [d, g1] => { results := [.lit (.bool true)], args := [d], vars := [g1] }
  | _ => none }
def fnGroupPlanRow : OpenClaim := { program := "ythadcdlggmahfaadoor", sum := "dca050fc3e7c37eab3b3855a700811936289ccd2c5b26125232fc8f48983fdda", func := "loop.example/checksinorder/laws.FnGroupPlan", spec := "fnGroupPlan", inPlace := ["slices.overlaps[int]", "slices.overlaps[loop.example/checksinorder/impl.askedGroup]"], unfollowed := true, recurses := true, named := ["loop.example/checksinorder/impl.yesStates"], apart := false, laid := [("loop.example/checksinorder/impl.yesStates", laid_loop_example_checksinorder_impl_yesStates)] }
def FnGroupPlanSaid : Prop := fnGroupPlanRow.holds Tryd.pinned (OpenSpec.ofChange fnGroupPlanSpec)

/-- ITS FALSE NEIGHBOUR: 'it returns false'. Refute it at one input. -/
def fnGroupPlanWrong : ChangeSpec := { name := "fnGroupPlan", vars := ["loop.example/checksinorder/impl.yesStates"], fn := fun _ => fun
  | [d, g1] => { results := [.lit (.bool false)], args := [d], vars := [g1] }
  | _ => none }
def FnGroupPlanWrongFalsely : Prop := fnGroupPlanRow.holds Tryd.pinned (OpenSpec.ofChange fnGroupPlanWrong)

/-- 'laws.FnGroupsTrue': WHATEVER THE INPUT: true; the input reads as it did. -/
def fnGroupsTrueSpec : ChangeSpec := { name := "fnGroupsTrue", vars := ["loop.example/checksinorder/impl.yesStates"], fn := fun _ => fun
  | [d, g1] => { results := [.lit (.bool true)], args := [d], vars := [g1] }
  | _ => none }
def fnGroupsTrueRow : OpenClaim := { program := "ythadcdlggmahfaadoor", sum := "dca050fc3e7c37eab3b3855a700811936289ccd2c5b26125232fc8f48983fdda", func := "loop.example/checksinorder/laws.FnGroupsTrue", spec := "fnGroupsTrue", inPlace := ["slices.overlaps[int]"], unfollowed := true, recurses := true, named := ["loop.example/checksinorder/impl.yesStates"], apart := false, laid := [("loop.example/checksinorder/impl.yesStates", laid_loop_example_checksinorder_impl_yesStates)] }
def FnGroupsTrueSaid : Prop := fnGroupsTrueRow.holds Tryd.pinned (OpenSpec.ofChange fnGroupsTrueSpec)

/-- ITS FALSE NEIGHBOUR: 'it returns false'. Refute it at one input. -/
def fnGroupsTrueWrong : ChangeSpec := { name := "fnGroupsTrue", vars := ["loop.example/checksinorder/impl.yesStates"], fn := fun _ => fun
  | [d, g1] => { results := [.lit (.bool false)], args := [d], vars := [g1] }
  | _ => none }
def FnGroupsTrueWrongFalsely : Prop := fnGroupsTrueRow.holds Tryd.pinned (OpenSpec.ofChange fnGroupsTrueWrong)

/-- 'laws.FnGroupsDual': WHATEVER THE INPUT: true; the input reads as it did. -/
def fnGroupsDualSpec : ChangeSpec := { name := "fnGroupsDual", vars := ["loop.example/checksinorder/impl.yesStates"], fn := fun _ => fun
  | [d, g1] => { results := [.lit (.bool true)], args := [d], vars := [g1] }
  | _ => none }
def fnGroupsDualRow : OpenClaim := { program := "ythadcdlggmahfaadoor", sum := "dca050fc3e7c37eab3b3855a700811936289ccd2c5b26125232fc8f48983fdda", func := "loop.example/checksinorder/laws.FnGroupsDual", spec := "fnGroupsDual", inPlace := ["slices.overlaps[int]", "slices.overlaps[loop.example/checksinorder/impl.askedGroup]"], unfollowed := true, recurses := true, named := ["loop.example/checksinorder/impl.yesStates"], apart := false, laid := [("loop.example/checksinorder/impl.yesStates", laid_loop_example_checksinorder_impl_yesStates)] }
def FnGroupsDualSaid : Prop := fnGroupsDualRow.holds Tryd.pinned (OpenSpec.ofChange fnGroupsDualSpec)

/-- ITS FALSE NEIGHBOUR: 'it returns false'. Refute it at one input. -/
def fnGroupsDualWrong : ChangeSpec := { name := "fnGroupsDual", vars := ["loop.example/checksinorder/impl.yesStates"], fn := fun _ => fun
  | [d, g1] => { results := [.lit (.bool false)], args := [d], vars := [g1] }
  | _ => none }
def FnGroupsDualWrongFalsely : Prop := fnGroupsDualRow.holds Tryd.pinned (OpenSpec.ofChange fnGroupsDualWrong)

/- THE SECOND FORM. 'bulk': how many values and letters a reading holds, each counted each time it is reached (what is shared counts as often as it is met; a slice's spare places count too). A statement '..UptoSaid' is the law's where the arguments, and the package variables that the reading takes, are together of bulk at most 1048576: NARROWER than '..Said'. Prove '..Said' where nothing that the law and all that it calls make is longer than what came in: it says more and counts as full. Else prove '..UptoSaid'. A law counts once. -/
mutual
def uptoBulk {H : Type} : DataW H → Nat
  | .lit (.string bytes) => bytes.length + 1
  | .lit _ => 1
  | .nil => 1
  | .ptr d => uptoBulk d + 1
  | .slice elems spare => uptoBulkAll elems + uptoBulkAll spare + 1
  | .agg parts => uptoBulkAll parts + 1
  | .iface _ d => uptoBulk d + 1
  | .map entries => uptoBulkEntries entries + 1
  | .held _ => 1
def uptoBulkAll {H : Type} : List (DataW H) → Nat
  | [] => 0
  | d :: r => uptoBulk d + uptoBulkAll r
def uptoBulkEntries {H : Type} : List (Lit × DataW H) → Nat
  | [] => 0
  | x :: r => uptoBulkEntry x + uptoBulkEntries r
def uptoBulkEntry {H : Type} : Lit × DataW H → Nat
  | (.string bytes, d) => bytes.length + uptoBulk d + 1
  | (_, d) => uptoBulk d + 1
 end
def uptoSmall : (H : Type) → List (DataW H) → Bool := fun _ ds => decide (uptoBulkAll ds ≤ 1048576)
def OpenSpec.upto (s : _root_.Go.ChangeSpec) : _root_.Go.OpenSpec := { _root_.Go.OpenSpec.ofChange s with cond := some uptoSmall }

/-- 'laws.FnGroupTerm', WHERE WHAT IT READS IS OF BULK AT MOST 1048576: true; the input reads as it did. -/
def fnGroupTermUptoRow : OpenClaim := { program := "ythadcdlggmahfaadoor", sum := "dca050fc3e7c37eab3b3855a700811936289ccd2c5b26125232fc8f48983fdda", func := "loop.example/checksinorder/laws.FnGroupTerm", spec := "fnGroupTerm", unfollowed := true, recurses := true, named := ["loop.example/checksinorder/impl.yesStates"], apart := false, laid := [("loop.example/checksinorder/impl.yesStates", laid_loop_example_checksinorder_impl_yesStates)], narrowed := true }
def FnGroupTermUptoSaid : Prop := fnGroupTermUptoRow.holds Tryd.pinned (OpenSpec.upto fnGroupTermSpec)

/-- 'laws.FnGroupAverage', WHERE WHAT IT READS IS OF BULK AT MOST 1048576: true; the input reads as it did. -/
def fnGroupAverageUptoRow : OpenClaim := { program := "ythadcdlggmahfaadoor", sum := "dca050fc3e7c37eab3b3855a700811936289ccd2c5b26125232fc8f48983fdda", func := "loop.example/checksinorder/laws.FnGroupAverage", spec := "fnGroupAverage", inPlace := ["slices.overlaps[int]", "slices.overlaps[loop.example/checksinorder/impl.askedGroup]"], unfollowed := true, recurses := true, named := ["loop.example/checksinorder/impl.yesStates"], apart := false, laid := [("loop.example/checksinorder/impl.yesStates", laid_loop_example_checksinorder_impl_yesStates)], narrowed := true }
def FnGroupAverageUptoSaid : Prop := fnGroupAverageUptoRow.holds Tryd.pinned (OpenSpec.upto fnGroupAverageSpec)

/-- 'laws.FnGroupPlan', WHERE WHAT IT READS IS OF BULK AT MOST 1048576: true; the input reads as it did. -/
def fnGroupPlanUptoRow : OpenClaim := { program := "ythadcdlggmahfaadoor", sum := "dca050fc3e7c37eab3b3855a700811936289ccd2c5b26125232fc8f48983fdda", func := "loop.example/checksinorder/laws.FnGroupPlan", spec := "fnGroupPlan", inPlace := ["slices.overlaps[int]", "slices.overlaps[loop.example/checksinorder/impl.askedGroup]"], unfollowed := true, recurses := true, named := ["loop.example/checksinorder/impl.yesStates"], apart := false, laid := [("loop.example/checksinorder/impl.yesStates", laid_loop_example_checksinorder_impl_yesStates)], narrowed := true }
def FnGroupPlanUptoSaid : Prop := fnGroupPlanUptoRow.holds Tryd.pinned (OpenSpec.upto fnGroupPlanSpec)

/-- 'laws.FnGroupsTrue', WHERE WHAT IT READS IS OF BULK AT MOST 1048576: true; the input reads as it did. -/
def fnGroupsTrueUptoRow : OpenClaim := { program := "ythadcdlggmahfaadoor", sum := "dca050fc3e7c37eab3b3855a700811936289ccd2c5b26125232fc8f48983fdda", func := "loop.example/checksinorder/laws.FnGroupsTrue", spec := "fnGroupsTrue", inPlace := ["slices.overlaps[int]"], unfollowed := true, recurses := true, named := ["loop.example/checksinorder/impl.yesStates"], apart := false, laid := [("loop.example/checksinorder/impl.yesStates", laid_loop_example_checksinorder_impl_yesStates)], narrowed := true }
def FnGroupsTrueUptoSaid : Prop := fnGroupsTrueUptoRow.holds Tryd.pinned (OpenSpec.upto fnGroupsTrueSpec)

/-- 'laws.FnGroupsDual', WHERE WHAT IT READS IS OF BULK AT MOST 1048576: true; the input reads as it did. -/
def fnGroupsDualUptoRow : OpenClaim := { program := "ythadcdlggmahfaadoor", sum := "dca050fc3e7c37eab3b3855a700811936289ccd2c5b26125232fc8f48983fdda", func := "loop.example/checksinorder/laws.FnGroupsDual", spec := "fnGroupsDual", inPlace := ["slices.overlaps[int]", "slices.overlaps[loop.example/checksinorder/impl.askedGroup]"], unfollowed := true, recurses := true, named := ["loop.example/checksinorder/impl.yesStates"], apart := false, laid := [("loop.example/checksinorder/impl.yesStates", laid_loop_example_checksinorder_impl_yesStates)], narrowed := true }
def FnGroupsDualUptoSaid : Prop := fnGroupsDualUptoRow.holds Tryd.pinned (OpenSpec.upto fnGroupsDualSpec)

end Rows
end Go.Proofs.YthadcdlggmahfaaDoor
