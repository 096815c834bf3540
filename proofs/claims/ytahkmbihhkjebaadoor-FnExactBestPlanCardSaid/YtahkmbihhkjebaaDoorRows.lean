/-
  NARROWER THAN 'FOR EVERY INPUT', by the rows' own cells (each row's printed sentence says how): FnExactNextInCount: laid · FnExactCountAverage: laid · FnExactGroupPlan: laid · FnExactBestAverage: laid · FnExactBestPlan: laid · FnExactDepthOf: laid · FnExactOrderPlan: laid.
  DERIVED. THE GIVEN ROWS OF THIS SEAT. 7 by the template 'for every input the law returns true; each argument reads behind the call as it read before'; 0 by the template 'total and deterministic' (their statements: YtahkmbihhkjebaaDoorTotals.lean).
  GIVEN WITH THE SEED: the statements are not yours to turn. If you find one false, say at which input.
  Laid BY PROGRAM, IN A SANDBOX (cutbox-rows.mjs): the forced cells as the released guide's own fill.sh prints them over the translation 828505e8b40e368f… (all of the seat's roots in one cut). By AI agents, Wed Nov 11 2026. No macro, syntax, notation, axiom, sorry.
-/
import Derived.Test.YtahkmbihhkjebaaDoorChecked
import GoSem.Claim
import GoSem.ClaimJoined
import GoSem.ClaimMapViews
import Derived.JoinedTies
import Derived.KernelRfl
namespace Go.Proofs.YtahkmbihhkjebaaDoor
/- THE CELL 'sum', in the pinned program and in every row, IS THE sha256 OF THE DUMP (.gsa) THAT YtahkmbihhkjebaaDoorProg.lean LOADS. Nothing in Lean hashes anything: it is a label: what it is worth is what the hold of that sum in a sandbox is worth. -/
noncomputable def Tryd.pinned : Pinned := { name := "ytahkmbihhkjebaadoor", sum := "828505e8b40e368f0403a856754c9f60dd0f6e765d87201e30ffbdc6b27a48b8", checked := Tryd.checked }
namespace Rows
def none {H : Type} : Left H := { results := [], args := [] }

/- WHAT THE LISTED PACKAGE-LEVEL VARIABLES READ AS WHEN THE CALL BEGINS. Each datum BY PROGRAM (the guide's laid-datum.mjs) off the statement by which the dump's own 'gosem.cut.vars' lays the variable. In a bare row this is a premise. The card (YtahkmbihhkjebaaDoorCards.lean) ties it to the program's text. -/
def laid_math_bits_deBruijn32tab {H : Type} : DataW H := .agg [.lit (.int .u8 0), .lit (.int .u8 1), .lit (.int .u8 28), .lit (.int .u8 2), .lit (.int .u8 29), .lit (.int .u8 14), .lit (.int .u8 24), .lit (.int .u8 3), .lit (.int .u8 30), .lit (.int .u8 22), .lit (.int .u8 20), .lit (.int .u8 15), .lit (.int .u8 25), .lit (.int .u8 17), .lit (.int .u8 4), .lit (.int .u8 8), .lit (.int .u8 31), .lit (.int .u8 27), .lit (.int .u8 13), .lit (.int .u8 23), .lit (.int .u8 21), .lit (.int .u8 19), .lit (.int .u8 16), .lit (.int .u8 7), .lit (.int .u8 26), .lit (.int .u8 12), .lit (.int .u8 18), .lit (.int .u8 6), .lit (.int .u8 11), .lit (.int .u8 5), .lit (.int .u8 10), .lit (.int .u8 9)]
def laid_math_bits_deBruijn64tab {H : Type} : DataW H := .agg [.lit (.int .u8 0), .lit (.int .u8 1), .lit (.int .u8 56), .lit (.int .u8 2), .lit (.int .u8 57), .lit (.int .u8 49), .lit (.int .u8 28), .lit (.int .u8 3), .lit (.int .u8 61), .lit (.int .u8 58), .lit (.int .u8 42), .lit (.int .u8 50), .lit (.int .u8 38), .lit (.int .u8 29), .lit (.int .u8 17), .lit (.int .u8 4), .lit (.int .u8 62), .lit (.int .u8 47), .lit (.int .u8 59), .lit (.int .u8 36), .lit (.int .u8 45), .lit (.int .u8 43), .lit (.int .u8 51), .lit (.int .u8 22), .lit (.int .u8 53), .lit (.int .u8 39), .lit (.int .u8 33), .lit (.int .u8 30), .lit (.int .u8 24), .lit (.int .u8 18), .lit (.int .u8 12), .lit (.int .u8 5), .lit (.int .u8 63), .lit (.int .u8 55), .lit (.int .u8 48), .lit (.int .u8 27), .lit (.int .u8 60), .lit (.int .u8 41), .lit (.int .u8 37), .lit (.int .u8 16), .lit (.int .u8 46), .lit (.int .u8 35), .lit (.int .u8 44), .lit (.int .u8 21), .lit (.int .u8 52), .lit (.int .u8 32), .lit (.int .u8 23), .lit (.int .u8 11), .lit (.int .u8 54), .lit (.int .u8 26), .lit (.int .u8 40), .lit (.int .u8 15), .lit (.int .u8 34), .lit (.int .u8 20), .lit (.int .u8 31), .lit (.int .u8 10), .lit (.int .u8 25), .lit (.int .u8 14), .lit (.int .u8 19), .lit (.int .u8 9), .lit (.int .u8 13), .lit (.int .u8 8), .lit (.int .u8 7), .lit (.int .u8 6)]
def laid_loop_example_checksinorder_impl_yesStates {H : Type} : DataW H := .agg [.lit (.int .u32 2863311530), .lit (.int .u32 3435973836), .lit (.int .u32 4042322160), .lit (.int .u32 4278255360), .lit (.int .u32 4294901760)]

/-- 'laws.FnExactNextInCount': WHATEVER THE INPUT: true; the input reads as it did. -/
def fnExactNextInCountSpec : ChangeSpec := { name := "fnExactNextInCount", fn := fun _ => fun
  | [d1, d2, d3] => { results := [.lit (.bool true)], args := [d1, d2, d3] }
  | _ => none }
def fnExactNextInCountRow : OpenClaim := { program := "ytahkmbihhkjebaadoor", sum := "828505e8b40e368f0403a856754c9f60dd0f6e765d87201e30ffbdc6b27a48b8", func := "loop.example/checksinorder/laws.FnExactNextInCount", spec := "fnExactNextInCount", inPlace := ["slices.overlaps[int]"], unfollowed := true, recurses := true, named := ["math/bits.deBruijn32tab", "math/bits.deBruijn64tab"], apart := false, laid := [("math/bits.deBruijn32tab", laid_math_bits_deBruijn32tab), ("math/bits.deBruijn64tab", laid_math_bits_deBruijn64tab)] }
def FnExactNextInCountSaid : Prop := fnExactNextInCountRow.holds Tryd.pinned (OpenSpec.ofChange fnExactNextInCountSpec)

/-- ITS FALSE NEIGHBOUR: 'it returns false'. Refute it at one input. -/
def fnExactNextInCountWrong : ChangeSpec := { name := "fnExactNextInCount", fn := fun _ => fun
  | [d1, d2, d3] => { results := [.lit (.bool false)], args := [d1, d2, d3] }
  | _ => none }
def FnExactNextInCountWrongFalsely : Prop := fnExactNextInCountRow.holds Tryd.pinned (OpenSpec.ofChange fnExactNextInCountWrong)

/-- 'laws.FnExactCountAverage': WHATEVER THE INPUT: true; the input reads as it did. -/
def fnExactCountAverageSpec : ChangeSpec := { name := "fnExactCountAverage", fn := fun _ => fun
  | [d1, d2] => { results := [.lit (.bool true)], args := [d1, d2] }
  | _ => none }
def fnExactCountAverageRow : OpenClaim := { program := "ytahkmbihhkjebaadoor", sum := "828505e8b40e368f0403a856754c9f60dd0f6e765d87201e30ffbdc6b27a48b8", func := "loop.example/checksinorder/laws.FnExactCountAverage", spec := "fnExactCountAverage", inPlace := ["slices.overlaps[int]"], unfollowed := true, recurses := true, named := ["math/bits.deBruijn32tab", "math/bits.deBruijn64tab"], apart := false, laid := [("math/bits.deBruijn32tab", laid_math_bits_deBruijn32tab), ("math/bits.deBruijn64tab", laid_math_bits_deBruijn64tab)] }
def FnExactCountAverageSaid : Prop := fnExactCountAverageRow.holds Tryd.pinned (OpenSpec.ofChange fnExactCountAverageSpec)

/-- ITS FALSE NEIGHBOUR: 'it returns false'. Refute it at one input. -/
def fnExactCountAverageWrong : ChangeSpec := { name := "fnExactCountAverage", fn := fun _ => fun
  | [d1, d2] => { results := [.lit (.bool false)], args := [d1, d2] }
  | _ => none }
def FnExactCountAverageWrongFalsely : Prop := fnExactCountAverageRow.holds Tryd.pinned (OpenSpec.ofChange fnExactCountAverageWrong)

/-- 'laws.FnExactGroupPlan': WHATEVER THE INPUT: true; the input reads as it did. -/
def fnExactGroupPlanSpec : ChangeSpec := { name := "fnExactGroupPlan", vars := ["loop.example/checksinorder/impl.yesStates"], fn := fun _ => fun
  | [d1, d2, g1] => { results := [.lit (.bool true)], args := [d1, d2], vars := [g1] }
  | _ => none }
def fnExactGroupPlanRow : OpenClaim := { program := "ytahkmbihhkjebaadoor", sum := "828505e8b40e368f0403a856754c9f60dd0f6e765d87201e30ffbdc6b27a48b8", func := "loop.example/checksinorder/laws.FnExactGroupPlan", spec := "fnExactGroupPlan", inPlace := ["slices.overlaps[int]", "slices.overlaps[loop.example/checksinorder/impl.askedGroup]"], unfollowed := true, recurses := true, named := ["loop.example/checksinorder/impl.yesStates"], apart := false, laid := [("loop.example/checksinorder/impl.yesStates", laid_loop_example_checksinorder_impl_yesStates)] }
def FnExactGroupPlanSaid : Prop := fnExactGroupPlanRow.holds Tryd.pinned (OpenSpec.ofChange fnExactGroupPlanSpec)

/-- ITS FALSE NEIGHBOUR: 'it returns false'. Refute it at one input. -/
def fnExactGroupPlanWrong : ChangeSpec := { name := "fnExactGroupPlan", vars := ["loop.example/checksinorder/impl.yesStates"], fn := fun _ => fun
  | [d1, d2, g1] => { results := [.lit (.bool false)], args := [d1, d2], vars := [g1] }
  | _ => none }
def FnExactGroupPlanWrongFalsely : Prop := fnExactGroupPlanRow.holds Tryd.pinned (OpenSpec.ofChange fnExactGroupPlanWrong)

/-- 'laws.FnExactBestAverage': WHATEVER THE INPUT: true; the input reads as it did. -/
def fnExactBestAverageSpec : ChangeSpec := { name := "fnExactBestAverage", vars := ["loop.example/checksinorder/impl.yesStates"], fn := fun _ => fun
  | [d1, d2, g1] => { results := [.lit (.bool true)], args := [d1, d2], vars := [g1] }
  | _ => none }
def fnExactBestAverageRow : OpenClaim := { program := "ytahkmbihhkjebaadoor", sum := "828505e8b40e368f0403a856754c9f60dd0f6e765d87201e30ffbdc6b27a48b8", func := "loop.example/checksinorder/laws.FnExactBestAverage", spec := "fnExactBestAverage", unfollowed := true, recurses := true, named := ["loop.example/checksinorder/impl.yesStates"], apart := false, laid := [("loop.example/checksinorder/impl.yesStates", laid_loop_example_checksinorder_impl_yesStates)] }
def FnExactBestAverageSaid : Prop := fnExactBestAverageRow.holds Tryd.pinned (OpenSpec.ofChange fnExactBestAverageSpec)

/-- ITS FALSE NEIGHBOUR: 'it returns false'. Refute it at one input. -/
def fnExactBestAverageWrong : ChangeSpec := { name := "fnExactBestAverage", vars := ["loop.example/checksinorder/impl.yesStates"], fn := fun _ => fun
  | [d1, d2, g1] => { results := [.lit (.bool false)], args := [d1, d2], vars := [g1] }
  | _ => none }
def FnExactBestAverageWrongFalsely : Prop := fnExactBestAverageRow.holds Tryd.pinned (OpenSpec.ofChange fnExactBestAverageWrong)

/-- 'laws.FnExactBestPlan': WHATEVER THE INPUT: true; the input reads as it did. -/
def fnExactBestPlanSpec : ChangeSpec := { name := "fnExactBestPlan", vars := ["loop.example/checksinorder/impl.yesStates"], fn := fun _ => fun
  | [d1, d2, g1] => { results := [.lit (.bool true)], args := [d1, d2], vars := [g1] }
  | _ => none }
def fnExactBestPlanRow : OpenClaim := { program := "ytahkmbihhkjebaadoor", sum := "828505e8b40e368f0403a856754c9f60dd0f6e765d87201e30ffbdc6b27a48b8", func := "loop.example/checksinorder/laws.FnExactBestPlan", spec := "fnExactBestPlan", unfollowed := true, recurses := true, named := ["loop.example/checksinorder/impl.yesStates"], apart := false, laid := [("loop.example/checksinorder/impl.yesStates", laid_loop_example_checksinorder_impl_yesStates)] }
def FnExactBestPlanSaid : Prop := fnExactBestPlanRow.holds Tryd.pinned (OpenSpec.ofChange fnExactBestPlanSpec)

/-- ITS FALSE NEIGHBOUR: 'it returns false'. Refute it at one input. -/
def fnExactBestPlanWrong : ChangeSpec := { name := "fnExactBestPlan", vars := ["loop.example/checksinorder/impl.yesStates"], fn := fun _ => fun
  | [d1, d2, g1] => { results := [.lit (.bool false)], args := [d1, d2], vars := [g1] }
  | _ => none }
def FnExactBestPlanWrongFalsely : Prop := fnExactBestPlanRow.holds Tryd.pinned (OpenSpec.ofChange fnExactBestPlanWrong)

/-- 'laws.FnExactDepthOf': WHATEVER THE INPUT: true; the input reads as it did. -/
def fnExactDepthOfSpec : ChangeSpec := { name := "fnExactDepthOf", vars := ["loop.example/checksinorder/impl.yesStates"], fn := fun _ => fun
  | [d1, d2, d3, g1] => { results := [.lit (.bool true)], args := [d1, d2, d3], vars := [g1] }
  | _ => none }
def fnExactDepthOfRow : OpenClaim := { program := "ytahkmbihhkjebaadoor", sum := "828505e8b40e368f0403a856754c9f60dd0f6e765d87201e30ffbdc6b27a48b8", func := "loop.example/checksinorder/laws.FnExactDepthOf", spec := "fnExactDepthOf", unfollowed := true, recurses := true, named := ["loop.example/checksinorder/impl.yesStates"], apart := false, laid := [("loop.example/checksinorder/impl.yesStates", laid_loop_example_checksinorder_impl_yesStates)] }
def FnExactDepthOfSaid : Prop := fnExactDepthOfRow.holds Tryd.pinned (OpenSpec.ofChange fnExactDepthOfSpec)

/-- ITS FALSE NEIGHBOUR: 'it returns false'. Refute it at one input. -/
def fnExactDepthOfWrong : ChangeSpec := { name := "fnExactDepthOf", vars := ["loop.example/checksinorder/impl.yesStates"], fn := fun _ => fun
  | [d1, d2, d3, g1] => { results := [.lit (.bool false)], args := [d1, d2, d3], vars := [g1] }
  | _ => none }
def FnExactDepthOfWrongFalsely : Prop := fnExactDepthOfRow.holds Tryd.pinned (OpenSpec.ofChange fnExactDepthOfWrong)

/-- 'laws.FnExactOrderPlan': WHATEVER THE INPUT: true; the input reads as it did. -/
def fnExactOrderPlanSpec : ChangeSpec := { name := "fnExactOrderPlan", vars := ["loop.example/checksinorder/impl.yesStates"], fn := fun _ => fun
  | [d1, d2, d3, g1] => { results := [.lit (.bool true)], args := [d1, d2, d3], vars := [g1] }
  | _ => none }
def fnExactOrderPlanRow : OpenClaim := { program := "ytahkmbihhkjebaadoor", sum := "828505e8b40e368f0403a856754c9f60dd0f6e765d87201e30ffbdc6b27a48b8", func := "loop.example/checksinorder/laws.FnExactOrderPlan", spec := "fnExactOrderPlan", unfollowed := true, recurses := true, named := ["loop.example/checksinorder/impl.yesStates"], apart := false, laid := [("loop.example/checksinorder/impl.yesStates", laid_loop_example_checksinorder_impl_yesStates)] }
def FnExactOrderPlanSaid : Prop := fnExactOrderPlanRow.holds Tryd.pinned (OpenSpec.ofChange fnExactOrderPlanSpec)

/-- ITS FALSE NEIGHBOUR: 'it returns false'. Refute it at one input. -/
def fnExactOrderPlanWrong : ChangeSpec := { name := "fnExactOrderPlan", vars := ["loop.example/checksinorder/impl.yesStates"], fn := fun _ => fun
  | [d1, d2, d3, g1] => { results := [.lit (.bool false)], args := [d1, d2, d3], vars := [g1] }
  | _ => none }
def FnExactOrderPlanWrongFalsely : Prop := fnExactOrderPlanRow.holds Tryd.pinned (OpenSpec.ofChange fnExactOrderPlanWrong)

/- THE SECOND FORM. 'bulk': how many values and letters a reading holds, each counted each time it is reached (what is shared counts as often as it is met; a slice's spare places count too). A statement '..UptoSaid' is the law's where the arguments, and the package variables that the reading takes, are together of bulk at most 1048576: NARROWER than '..Said'. Prove '..Said' where nothing that the law and all that it calls make is longer than what came in: it says more and counts as full. Else prove '..UptoSaid'. A law counts once. -/
mutual
def uptoBulk {H : Type} : DataW H → Nat
  | .lit (.string bytes) => bytes.length + 1
  | .lit _ => 1
  | .nil => 1
  | .ptr d => uptoBulk d + 1
  | .slice elems spare => uptoBulkAll elems + uptoBulkAll spare + 1
  | .agg parts => uptoBulkAll parts + 1
  | .iface _ d => uptoBulk d + 1
  | .map entries => uptoBulkEntries entries + 1
  | .held _ => 1
def uptoBulkAll {H : Type} : List (DataW H) → Nat
  | [] => 0
  | d :: r => uptoBulk d + uptoBulkAll r
def uptoBulkEntries {H : Type} : List (Lit × DataW H) → Nat
  | [] => 0
  | x :: r => uptoBulkEntry x + uptoBulkEntries r
def uptoBulkEntry {H : Type} : Lit × DataW H → Nat
  | (.string bytes, d) => bytes.length + uptoBulk d + 1
  | (_, d) => uptoBulk d + 1
 end
def uptoSmall : (H : Type) → List (DataW H) → Bool := fun _ ds => decide (uptoBulkAll ds ≤ 1048576)
def OpenSpec.upto (s : _root_.Go.ChangeSpec) : _root_.Go.OpenSpec := { _root_.Go.OpenSpec.ofChange s with cond := some uptoSmall }

/-- 'laws.FnExactNextInCount', WHERE WHAT IT READS IS OF BULK AT MOST 1048576: true; the input reads as it did. -/
def fnExactNextInCountUptoRow : OpenClaim := { program := "ytahkmbihhkjebaadoor", sum := "828505e8b40e368f0403a856754c9f60dd0f6e765d87201e30ffbdc6b27a48b8", func := "loop.example/checksinorder/laws.FnExactNextInCount", spec := "fnExactNextInCount", inPlace := ["slices.overlaps[int]"], unfollowed := true, recurses := true, named := ["math/bits.deBruijn32tab", "math/bits.deBruijn64tab"], apart := false, laid := [("math/bits.deBruijn32tab", laid_math_bits_deBruijn32tab), ("math/bits.deBruijn64tab", laid_math_bits_deBruijn64tab)], narrowed := true }
def FnExactNextInCountUptoSaid : Prop := fnExactNextInCountUptoRow.holds Tryd.pinned (OpenSpec.upto fnExactNextInCountSpec)

/-- 'laws.FnExactCountAverage', WHERE WHAT IT READS IS OF BULK AT MOST 1048576: true; the input reads as it did. -/
def fnExactCountAverageUptoRow : OpenClaim := { program := "ytahkmbihhkjebaadoor", sum := "828505e8b40e368f0403a856754c9f60dd0f6e765d87201e30ffbdc6b27a48b8", func := "loop.example/checksinorder/laws.FnExactCountAverage", spec := "fnExactCountAverage", inPlace := ["slices.overlaps[int]"], unfollowed := true, recurses := true, named := ["math/bits.deBruijn32tab", "math/bits.deBruijn64tab"], apart := false, laid := [("math/bits.deBruijn32tab", laid_math_bits_deBruijn32tab), ("math/bits.deBruijn64tab", laid_math_bits_deBruijn64tab)], narrowed := true }
def FnExactCountAverageUptoSaid : Prop := fnExactCountAverageUptoRow.holds Tryd.pinned (OpenSpec.upto fnExactCountAverageSpec)

/-- 'laws.FnExactGroupPlan', WHERE WHAT IT READS IS OF BULK AT MOST 1048576: true; the input reads as it did. -/
def fnExactGroupPlanUptoRow : OpenClaim := { program := "ytahkmbihhkjebaadoor", sum := "828505e8b40e368f0403a856754c9f60dd0f6e765d87201e30ffbdc6b27a48b8", func := "loop.example/checksinorder/laws.FnExactGroupPlan", spec := "fnExactGroupPlan", inPlace := ["slices.overlaps[int]", "slices.overlaps[loop.example/checksinorder/impl.askedGroup]"], unfollowed := true, recurses := true, named := ["loop.example/checksinorder/impl.yesStates"], apart := false, laid := [("loop.example/checksinorder/impl.yesStates", laid_loop_example_checksinorder_impl_yesStates)], narrowed := true }
def FnExactGroupPlanUptoSaid : Prop := fnExactGroupPlanUptoRow.holds Tryd.pinned (OpenSpec.upto fnExactGroupPlanSpec)

/-- 'laws.FnExactBestAverage', WHERE WHAT IT READS IS OF BULK AT MOST 1048576: true; the input reads as it did. -/
def fnExactBestAverageUptoRow : OpenClaim := { program := "ytahkmbihhkjebaadoor", sum := "828505e8b40e368f0403a856754c9f60dd0f6e765d87201e30ffbdc6b27a48b8", func := "loop.example/checksinorder/laws.FnExactBestAverage", spec := "fnExactBestAverage", unfollowed := true, recurses := true, named := ["loop.example/checksinorder/impl.yesStates"], apart := false, laid := [("loop.example/checksinorder/impl.yesStates", laid_loop_example_checksinorder_impl_yesStates)], narrowed := true }
def FnExactBestAverageUptoSaid : Prop := fnExactBestAverageUptoRow.holds Tryd.pinned (OpenSpec.upto fnExactBestAverageSpec)

/-- 'laws.FnExactBestPlan', WHERE WHAT IT READS IS OF BULK AT MOST 1048576: true; the input reads as it did. -/
def fnExactBestPlanUptoRow : OpenClaim := { program := "ytahkmbihhkjebaadoor", sum := "828505e8b40e368f0403a856754c9f60dd0f6e765d87201e30ffbdc6b27a48b8", func := "loop.example/checksinorder/laws.FnExactBestPlan", spec := "fnExactBestPlan", unfollowed := true, recurses := true, named := ["loop.example/checksinorder/impl.yesStates"], apart := false, laid := [("loop.example/checksinorder/impl.yesStates", laid_loop_example_checksinorder_impl_yesStates)], narrowed := true }
def FnExactBestPlanUptoSaid : Prop := fnExactBestPlanUptoRow.holds Tryd.pinned (OpenSpec.upto fnExactBestPlanSpec)

/-- 'laws.FnExactDepthOf', WHERE WHAT IT READS IS OF BULK AT MOST 1048576: true; the input reads as it did. -/
def fnExactDepthOfUptoRow : OpenClaim := { program := "ytahkmbihhkjebaadoor", sum := "828505e8b40e368f0403a856754c9f60dd0f6e765d87201e30ffbdc6b27a48b8", func := "loop.example/checksinorder/laws.FnExactDepthOf", spec := "fnExactDepthOf", unfollowed := true, recurses := true, named := ["loop.example/checksinorder/impl.yesStates"], apart := false, laid := [("loop.example/checksinorder/impl.yesStates", laid_loop_example_checksinorder_impl_yesStates)], narrowed := true }
def FnExactDepthOfUptoSaid : Prop := fnExactDepthOfUptoRow.holds Tryd.pinned (OpenSpec.upto fnExactDepthOfSpec)

/-- 'laws.FnExactOrderPlan', WHERE WHAT IT READS IS OF BULK AT MOST 1048576: true; the input reads as it did. -/
def fnExactOrderPlanUptoRow : OpenClaim := { program := "ytahkmbihhkjebaadoor", sum := "828505e8b40e368f0403a856754c9f60dd0f6e765d87201e30ffbdc6b27a48b8", func := "loop.example/checksinorder/laws.FnExactOrderPlan", spec := "fnExactOrderPlan", unfollowed := true, recurses := true, named := ["loop.example/checksinorder/impl.yesStates"], apart := false, laid := [("loop.example/checksinorder/impl.yesStates", laid_loop_example_checksinorder_impl_yesStates)], narrowed := true }
def FnExactOrderPlanUptoSaid : Prop := fnExactOrderPlanUptoRow.holds Tryd.pinned (OpenSpec.upto fnExactOrderPlanSpec)

end Rows
end Go.Proofs.YtahkmbihhkjebaaDoor
