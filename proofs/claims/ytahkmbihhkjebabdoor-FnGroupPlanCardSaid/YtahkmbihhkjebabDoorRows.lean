/-
  NARROWER THAN 'FOR EVERY INPUT', by the rows' own cells (each row's printed sentence says how): FnNextInCount: laid · FnCountAverage: laid · FnCountBest: laid · FnTwoOfThree: laid · FnGroupPlan: laid · FnBestAverage: laid · FnGroupAverage: laid · FnGroupsDual: laid · FnDearer: laid.
  DERIVED. THE GIVEN ROWS OF THIS SEAT. 9 by the template 'for every input the law returns true; each argument reads behind the call as it read before'; 0 by the template 'total and deterministic' (their statements: YtahkmbihhkjebabDoorTotals.lean).
  GIVEN WITH THE SEED: the statements are not yours to turn. If you find one false, say at which input.
  Laid BY PROGRAM, IN A SANDBOX (cutbox-rows.mjs): the forced cells as the released guide's own fill.sh prints them over the translation 151a9b9a5db9eef6… (all of the seat's roots in one cut). By AI agents, Wed Nov 11 2026. No macro, syntax, notation, axiom, sorry.
-/
import Derived.Test.YtahkmbihhkjebabDoorChecked
import GoSem.Claim
import GoSem.ClaimJoined
import GoSem.ClaimMapViews
import Derived.JoinedTies
import Derived.KernelRfl
namespace Go.Proofs.YtahkmbihhkjebabDoor
/- THE CELL 'sum', in the pinned program and in every row, IS THE sha256 OF THE DUMP (.gsa) THAT YtahkmbihhkjebabDoorProg.lean LOADS. Nothing in Lean hashes anything: it is a label: what it is worth is what the hold of that sum in a sandbox is worth. -/
noncomputable def Tryd.pinned : Pinned := { name := "ytahkmbihhkjebabdoor", sum := "151a9b9a5db9eef62c9a4f2bb8d126c9f4490aa30ef6b8a5e839abd4c5679483", checked := Tryd.checked }
namespace Rows
def none {H : Type} : Left H := { results := [], args := [] }

/- WHAT THE LISTED PACKAGE-LEVEL VARIABLES READ AS WHEN THE CALL BEGINS. Each datum BY PROGRAM (the guide's laid-datum.mjs) off the statement by which the dump's own 'gosem.cut.vars' lays the variable. In a bare row this is a premise. The card (YtahkmbihhkjebabDoorCards.lean) ties it to the program's text. -/
def laid_math_bits_deBruijn32tab {H : Type} : DataW H := .agg [.lit (.int .u8 0), .lit (.int .u8 1), .lit (.int .u8 28), .lit (.int .u8 2), .lit (.int .u8 29), .lit (.int .u8 14), .lit (.int .u8 24), .lit (.int .u8 3), .lit (.int .u8 30), .lit (.int .u8 22), .lit (.int .u8 20), .lit (.int .u8 15), .lit (.int .u8 25), .lit (.int .u8 17), .lit (.int .u8 4), .lit (.int .u8 8), .lit (.int .u8 31), .lit (.int .u8 27), .lit (.int .u8 13), .lit (.int .u8 23), .lit (.int .u8 21), .lit (.int .u8 19), .lit (.int .u8 16), .lit (.int .u8 7), .lit (.int .u8 26), .lit (.int .u8 12), .lit (.int .u8 18), .lit (.int .u8 6), .lit (.int .u8 11), .lit (.int .u8 5), .lit (.int .u8 10), .lit (.int .u8 9)]
def laid_math_bits_deBruijn64tab {H : Type} : DataW H := .agg [.lit (.int .u8 0), .lit (.int .u8 1), .lit (.int .u8 56), .lit (.int .u8 2), .lit (.int .u8 57), .lit (.int .u8 49), .lit (.int .u8 28), .lit (.int .u8 3), .lit (.int .u8 61), .lit (.int .u8 58), .lit (.int .u8 42), .lit (.int .u8 50), .lit (.int .u8 38), .lit (.int .u8 29), .lit (.int .u8 17), .lit (.int .u8 4), .lit (.int .u8 62), .lit (.int .u8 47), .lit (.int .u8 59), .lit (.int .u8 36), .lit (.int .u8 45), .lit (.int .u8 43), .lit (.int .u8 51), .lit (.int .u8 22), .lit (.int .u8 53), .lit (.int .u8 39), .lit (.int .u8 33), .lit (.int .u8 30), .lit (.int .u8 24), .lit (.int .u8 18), .lit (.int .u8 12), .lit (.int .u8 5), .lit (.int .u8 63), .lit (.int .u8 55), .lit (.int .u8 48), .lit (.int .u8 27), .lit (.int .u8 60), .lit (.int .u8 41), .lit (.int .u8 37), .lit (.int .u8 16), .lit (.int .u8 46), .lit (.int .u8 35), .lit (.int .u8 44), .lit (.int .u8 21), .lit (.int .u8 52), .lit (.int .u8 32), .lit (.int .u8 23), .lit (.int .u8 11), .lit (.int .u8 54), .lit (.int .u8 26), .lit (.int .u8 40), .lit (.int .u8 15), .lit (.int .u8 34), .lit (.int .u8 20), .lit (.int .u8 31), .lit (.int .u8 10), .lit (.int .u8 25), .lit (.int .u8 14), .lit (.int .u8 19), .lit (.int .u8 9), .lit (.int .u8 13), .lit (.int .u8 8), .lit (.int .u8 7), .lit (.int .u8 6)]
def laid_loop_example_checksinorder_impl_yesStates {H : Type} : DataW H := .agg [.lit (.int .u32 2863311530), .lit (.int .u32 3435973836), .lit (.int .u32 4042322160), .lit (.int .u32 4278255360), .lit (.int .u32 4294901760)]

/-- 'laws.FnNextInCount': WHATEVER THE INPUT: true; the input reads as it did. -/
def fnNextInCountSpec : ChangeSpec := { name := "fnNextInCount", fn := fun _ => fun
  | [d] => { results := [.lit (.bool true)], args := [d] }
  | _ => none }
def fnNextInCountRow : OpenClaim := { program := "ytahkmbihhkjebabdoor", sum := "151a9b9a5db9eef62c9a4f2bb8d126c9f4490aa30ef6b8a5e839abd4c5679483", func := "loop.example/checksinorder/laws.FnNextInCount", spec := "fnNextInCount", inPlace := ["slices.overlaps[int]"], unfollowed := true, recurses := true, named := ["math/bits.deBruijn32tab", "math/bits.deBruijn64tab"], apart := false, laid := [("math/bits.deBruijn32tab", laid_math_bits_deBruijn32tab), ("math/bits.deBruijn64tab", laid_math_bits_deBruijn64tab)] }
def FnNextInCountSaid : Prop := fnNextInCountRow.holds Tryd.pinned (OpenSpec.ofChange fnNextInCountSpec)

/-- ITS FALSE NEIGHBOUR: 'it returns false'. Refute it at one input. -/
def fnNextInCountWrong : ChangeSpec := { name := "fnNextInCount", fn := fun _ => fun
  | [d] => { results := [.lit (.bool false)], args := [d] }
  | _ => none }
def FnNextInCountWrongFalsely : Prop := fnNextInCountRow.holds Tryd.pinned (OpenSpec.ofChange fnNextInCountWrong)

/-- 'laws.FnCountAverage': WHATEVER THE INPUT: true; the input reads as it did. -/
def fnCountAverageSpec : ChangeSpec := { name := "fnCountAverage", fn := fun _ => fun
  | [d] => { results := [.lit (.bool true)], args := [d] }
  | _ => none }
def fnCountAverageRow : OpenClaim := { program := "ytahkmbihhkjebabdoor", sum := "151a9b9a5db9eef62c9a4f2bb8d126c9f4490aa30ef6b8a5e839abd4c5679483", func := "loop.example/checksinorder/laws.FnCountAverage", spec := "fnCountAverage", inPlace := ["slices.overlaps[int]"], unfollowed := true, recurses := true, named := ["math/bits.deBruijn32tab", "math/bits.deBruijn64tab"], apart := false, laid := [("math/bits.deBruijn32tab", laid_math_bits_deBruijn32tab), ("math/bits.deBruijn64tab", laid_math_bits_deBruijn64tab)] }
def FnCountAverageSaid : Prop := fnCountAverageRow.holds Tryd.pinned (OpenSpec.ofChange fnCountAverageSpec)

/-- ITS FALSE NEIGHBOUR: 'it returns false'. Refute it at one input. -/
def fnCountAverageWrong : ChangeSpec := { name := "fnCountAverage", fn := fun _ => fun
  | [d] => { results := [.lit (.bool false)], args := [d] }
  | _ => none }
def FnCountAverageWrongFalsely : Prop := fnCountAverageRow.holds Tryd.pinned (OpenSpec.ofChange fnCountAverageWrong)

/-- 'laws.FnCountBest': WHATEVER THE INPUT: true; the input reads as it did. -/
def fnCountBestSpec : ChangeSpec := { name := "fnCountBest", vars := ["loop.example/checksinorder/impl.yesStates"], fn := fun _ => fun
  | [d, g1] => { results := [.lit (.bool true)], args := [d], vars := [g1] }
  | _ => none }
def fnCountBestRow : OpenClaim := { program := "ytahkmbihhkjebabdoor", sum := "151a9b9a5db9eef62c9a4f2bb8d126c9f4490aa30ef6b8a5e839abd4c5679483", func := "loop.example/checksinorder/laws.FnCountBest", spec := "fnCountBest", unfollowed := true, recurses := true, named := ["loop.example/checksinorder/impl.yesStates"], apart := false, laid := [("loop.example/checksinorder/impl.yesStates", laid_loop_example_checksinorder_impl_yesStates)] }
def FnCountBestSaid : Prop := fnCountBestRow.holds Tryd.pinned (OpenSpec.ofChange fnCountBestSpec)

/-- ITS FALSE NEIGHBOUR: 'it returns false'. Refute it at one input. -/
def fnCountBestWrong : ChangeSpec := { name := "fnCountBest", vars := ["loop.example/checksinorder/impl.yesStates"], fn := fun _ => fun
  | [d, g1] => { results := [.lit (.bool false)], args := [d], vars := [g1] }
  | _ => none }
def FnCountBestWrongFalsely : Prop := fnCountBestRow.holds Tryd.pinned (OpenSpec.ofChange fnCountBestWrong)

/-- 'laws.FnTwoOfThree': WHATEVER THE INPUT: true; the input reads as it did. -/
def fnTwoOfThreeSpec : ChangeSpec := { name := "fnTwoOfThree", vars := ["loop.example/checksinorder/impl.yesStates"], fn := fun _ => fun
  | [d, g1] => { results := [.lit (.bool true)], args := [d], vars := [g1] }
  | _ => none }
def fnTwoOfThreeRow : OpenClaim := { program := "ytahkmbihhkjebabdoor", sum := "151a9b9a5db9eef62c9a4f2bb8d126c9f4490aa30ef6b8a5e839abd4c5679483", func := "loop.example/checksinorder/laws.FnTwoOfThree", spec := "fnTwoOfThree", unfollowed := true, recurses := true, named := ["loop.example/checksinorder/impl.yesStates"], apart := false, laid := [("loop.example/checksinorder/impl.yesStates", laid_loop_example_checksinorder_impl_yesStates)] }
def FnTwoOfThreeSaid : Prop := fnTwoOfThreeRow.holds Tryd.pinned (OpenSpec.ofChange fnTwoOfThreeSpec)

/-- ITS FALSE NEIGHBOUR: 'it returns false'. Refute it at one input. -/
def fnTwoOfThreeWrong : ChangeSpec := { name := "fnTwoOfThree", vars := ["loop.example/checksinorder/impl.yesStates"], fn := fun _ => fun
  | [d, g1] => { results := [.lit (.bool false)], args := [d], vars := [g1] }
  | _ => none }
def FnTwoOfThreeWrongFalsely : Prop := fnTwoOfThreeRow.holds Tryd.pinned (OpenSpec.ofChange fnTwoOfThreeWrong)

/-- 'laws.FnGroupPlan': WHATEVER THE INPUT: true; the input reads as it did. -/
def fnGroupPlanSpec : ChangeSpec := { name := "fnGroupPlan", vars := ["loop.example/checksinorder/impl.yesStates"], fn := fun _ => fun
  | [d, g1] => { results := [.lit (.bool true)], args := [d], vars := [g1] }
  | _ => none }
def fnGroupPlanRow : OpenClaim := { program := "ytahkmbihhkjebabdoor", sum := "151a9b9a5db9eef62c9a4f2bb8d126c9f4490aa30ef6b8a5e839abd4c5679483", func := "loop.example/checksinorder/laws.FnGroupPlan", spec := "fnGroupPlan", inPlace := ["slices.overlaps[int]", "slices.overlaps[loop.example/checksinorder/impl.askedGroup]"], unfollowed := true, recurses := true, named := ["loop.example/checksinorder/impl.yesStates"], apart := false, laid := [("loop.example/checksinorder/impl.yesStates", laid_loop_example_checksinorder_impl_yesStates)] }
def FnGroupPlanSaid : Prop := fnGroupPlanRow.holds Tryd.pinned (OpenSpec.ofChange fnGroupPlanSpec)

/-- ITS FALSE NEIGHBOUR: 'it returns false'. Refute it at one input. -/
def fnGroupPlanWrong : ChangeSpec := { name := "fnGroupPlan", vars := ["loop.example/checksinorder/impl.yesStates"], fn := fun _ => fun
  | [d, g1] => { results := [.lit (.bool false)], args := [d], vars := [g1] }
  | _ => none }
def FnGroupPlanWrongFalsely : Prop := fnGroupPlanRow.holds Tryd.pinned (OpenSpec.ofChange fnGroupPlanWrong)

/-- 'laws.FnBestAverage': WHATEVER THE INPUT: true; the input reads as it did. -/
def fnBestAverageSpec : ChangeSpec := { name := "fnBestAverage", vars := ["loop.example/checksinorder/impl.yesStates"], fn := fun _ => fun
  | [d, g1] => { results := [.lit (.bool true)], args := [d], vars := [g1] }
  | _ => none }
def fnBestAverageRow : OpenClaim := { program := "ytahkmbihhkjebabdoor", sum := "151a9b9a5db9eef62c9a4f2bb8d126c9f4490aa30ef6b8a5e839abd4c5679483", func := "loop.example/checksinorder/laws.FnBestAverage", spec := "fnBestAverage", inPlace := ["slices.overlaps[int]"], unfollowed := true, recurses := true, named := ["loop.example/checksinorder/impl.yesStates"], apart := false, laid := [("loop.example/checksinorder/impl.yesStates", laid_loop_example_checksinorder_impl_yesStates)] }
def FnBestAverageSaid : Prop := fnBestAverageRow.holds Tryd.pinned (OpenSpec.ofChange fnBestAverageSpec)

/-- ITS FALSE NEIGHBOUR: 'it returns false'. Refute it at one input. -/
def fnBestAverageWrong : ChangeSpec := { name := "fnBestAverage", vars := ["loop.example/checksinorder/impl.yesStates"], fn := fun _ => fun
  | [d, g1] => { results := [.lit (.bool false)], args := [d], vars := [g1] }
  | _ => none }
def FnBestAverageWrongFalsely : Prop := fnBestAverageRow.holds Tryd.pinned (OpenSpec.ofChange fnBestAverageWrong)

/-- 'laws.FnGroupAverage': WHATEVER THE INPUT: true; the input reads as it did. -/
def fnGroupAverageSpec : ChangeSpec := { name := "fnGroupAverage", vars := ["loop.example/checksinorder/impl.yesStates"], fn := fun _ => fun
  | [d, g1] => { results := [.lit (.bool true)], args := [d], vars := [g1] }
  | _ => none }
def fnGroupAverageRow : OpenClaim := { program := "ytahkmbihhkjebabdoor", sum := "151a9b9a5db9eef62c9a4f2bb8d126c9f4490aa30ef6b8a5e839abd4c5679483", func := "loop.example/checksinorder/laws.FnGroupAverage", spec := "fnGroupAverage", inPlace := ["slices.overlaps[int]", "slices.overlaps[loop.example/checksinorder/impl.askedGroup]"], unfollowed := true, recurses := true, named := ["loop.example/checksinorder/impl.yesStates"], apart := false, laid := [("loop.example/checksinorder/impl.yesStates", laid_loop_example_checksinorder_impl_yesStates)] }
def FnGroupAverageSaid : Prop := fnGroupAverageRow.holds Tryd.pinned (OpenSpec.ofChange fnGroupAverageSpec)

/-- ITS FALSE NEIGHBOUR: 'it returns false'. Refute it at one input. -/
def fnGroupAverageWrong : ChangeSpec := { name := "fnGroupAverage", vars := ["loop.example/checksinorder/impl.yesStates"], fn := fun _ => fun
  | [d, g1] => { results := [.lit (.bool false)], args := [d], vars := [g1] }
  | _ => none }
def FnGroupAverageWrongFalsely : Prop := fnGroupAverageRow.holds Tryd.pinned (OpenSpec.ofChange fnGroupAverageWrong)

/-- 'laws.FnGroupsDual': WHATEVER THE INPUT: true; the input reads as it did. -/
def fnGroupsDualSpec : ChangeSpec := { name := "fnGroupsDual", vars := ["loop.example/checksinorder/impl.yesStates"], fn := fun _ => fun
  | [d, g1] => { results := [.lit (.bool true)], args := [d], vars := [g1] }
  | _ => none }
def fnGroupsDualRow : OpenClaim := { program := "ytahkmbihhkjebabdoor", sum := "151a9b9a5db9eef62c9a4f2bb8d126c9f4490aa30ef6b8a5e839abd4c5679483", func := "loop.example/checksinorder/laws.FnGroupsDual", spec := "fnGroupsDual", inPlace := ["slices.overlaps[int]", "slices.overlaps[loop.example/checksinorder/impl.askedGroup]"], unfollowed := true, recurses := true, named := ["loop.example/checksinorder/impl.yesStates"], apart := false, laid := [("loop.example/checksinorder/impl.yesStates", laid_loop_example_checksinorder_impl_yesStates)] }
def FnGroupsDualSaid : Prop := fnGroupsDualRow.holds Tryd.pinned (OpenSpec.ofChange fnGroupsDualSpec)

/-- ITS FALSE NEIGHBOUR: 'it returns false'. Refute it at one input. -/
def fnGroupsDualWrong : ChangeSpec := { name := "fnGroupsDual", vars := ["loop.example/checksinorder/impl.yesStates"], fn := fun _ => fun
  | [d, g1] => { results := [.lit (.bool false)], args := [d], vars := [g1] }
  | _ => none }
def FnGroupsDualWrongFalsely : Prop := fnGroupsDualRow.holds Tryd.pinned (OpenSpec.ofChange fnGroupsDualWrong)

/-- 'laws.FnDearer': WHATEVER THE INPUT: true; the input reads as it did. -/
def fnDearerSpec : ChangeSpec := { name := "fnDearer", vars := ["loop.example/checksinorder/impl.yesStates"], fn := fun _ => fun
  | [d, g1] => { results := [.lit (.bool true)], args := [d], vars := [g1] }
  | _ => none }
def fnDearerRow : OpenClaim := { program := "ytahkmbihhkjebabdoor", sum := "151a9b9a5db9eef62c9a4f2bb8d126c9f4490aa30ef6b8a5e839abd4c5679483", func := "loop.example/checksinorder/laws.FnDearer", spec := "fnDearer", unfollowed := true, recurses := true, named := ["loop.example/checksinorder/impl.yesStates"], apart := false, laid := [("loop.example/checksinorder/impl.yesStates", laid_loop_example_checksinorder_impl_yesStates)] }
def FnDearerSaid : Prop := fnDearerRow.holds Tryd.pinned (OpenSpec.ofChange fnDearerSpec)

/-- ITS FALSE NEIGHBOUR: 'it returns false'. Refute it at one input. -/
def fnDearerWrong : ChangeSpec := { name := "fnDearer", vars := ["loop.example/checksinorder/impl.yesStates"], fn := fun _ => fun
  | [d, g1] => { results := [.lit (.bool false)], args := [d], vars := [g1] }
  | _ => none }
def FnDearerWrongFalsely : Prop := fnDearerRow.holds Tryd.pinned (OpenSpec.ofChange fnDearerWrong)

/- THE SECOND FORM. 'bulk': how many values and letters a reading holds, each counted each time it is reached (what is shared counts as often as it is met; a slice's spare places count too). A statement '..UptoSaid' is the law's where the arguments, and the package variables that the reading takes, are together of bulk at most 1048576: NARROWER than '..Said'. Prove '..Said' where nothing that the law and all that it calls make is longer than what came in: it says more and counts as full. Else prove '..UptoSaid'. A law counts once. -/
mutual
def uptoBulk {H : Type} : DataW H → Nat
  | .lit (.string bytes) => bytes.length + 1
  | .lit _ => 1
  | .nil => 1
  | .ptr d => uptoBulk d + 1
  | .slice elems spare => uptoBulkAll elems + uptoBulkAll spare + 1
  | .agg parts => uptoBulkAll parts + 1
  | .iface _ d => uptoBulk d + 1
  | .map entries => uptoBulkEntries entries + 1
  | .held _ => 1
def uptoBulkAll {H : Type} : List (DataW H) → Nat
  | [] => 0
  | d :: r => uptoBulk d + uptoBulkAll r
def uptoBulkEntries {H : Type} : List (Lit × DataW H) → Nat
  | [] => 0
  | x :: r => uptoBulkEntry x + uptoBulkEntries r
def uptoBulkEntry {H : Type} : Lit × DataW H → Nat
  | (.string bytes, d) => bytes.length + uptoBulk d + 1
  | (_, d) => uptoBulk d + 1
 end
def uptoSmall : (H : Type) → List (DataW H) → Bool := fun _ ds => decide (uptoBulkAll ds ≤ 1048576)
def OpenSpec.upto (s : _root_.Go.ChangeSpec) : _root_.Go.OpenSpec := { _root_.Go.OpenSpec.ofChange s with cond := some uptoSmall }

/-- 'laws.FnNextInCount', WHERE WHAT IT READS IS OF BULK AT MOST 1048576: true; the input reads as it did. -/
def fnNextInCountUptoRow : OpenClaim := { program := "ytahkmbihhkjebabdoor", sum := "151a9b9a5db9eef62c9a4f2bb8d126c9f4490aa30ef6b8a5e839abd4c5679483", func := "loop.example/checksinorder/laws.FnNextInCount", spec := "fnNextInCount", inPlace := ["slices.overlaps[int]"], unfollowed := true, recurses := true, named := ["math/bits.deBruijn32tab", "math/bits.deBruijn64tab"], apart := false, laid := [("math/bits.deBruijn32tab", laid_math_bits_deBruijn32tab), ("math/bits.deBruijn64tab", laid_math_bits_deBruijn64tab)], narrowed := true }
def FnNextInCountUptoSaid : Prop := fnNextInCountUptoRow.holds Tryd.pinned (OpenSpec.upto fnNextInCountSpec)

/-- 'laws.FnCountAverage', WHERE WHAT IT READS IS OF BULK AT MOST 1048576: true; the input reads as it did. -/
def fnCountAverageUptoRow : OpenClaim := { program := "ytahkmbihhkjebabdoor", sum := "151a9b9a5db9eef62c9a4f2bb8d126c9f4490aa30ef6b8a5e839abd4c5679483", func := "loop.example/checksinorder/laws.FnCountAverage", spec := "fnCountAverage", inPlace := ["slices.overlaps[int]"], unfollowed := true, recurses := true, named := ["math/bits.deBruijn32tab", "math/bits.deBruijn64tab"], apart := false, laid := [("math/bits.deBruijn32tab", laid_math_bits_deBruijn32tab), ("math/bits.deBruijn64tab", laid_math_bits_deBruijn64tab)], narrowed := true }
def FnCountAverageUptoSaid : Prop := fnCountAverageUptoRow.holds Tryd.pinned (OpenSpec.upto fnCountAverageSpec)

/-- 'laws.FnCountBest', WHERE WHAT IT READS IS OF BULK AT MOST 1048576: true; the input reads as it did. -/
def fnCountBestUptoRow : OpenClaim := { program := "ytahkmbihhkjebabdoor", sum := "151a9b9a5db9eef62c9a4f2bb8d126c9f4490aa30ef6b8a5e839abd4c5679483", func := "loop.example/checksinorder/laws.FnCountBest", spec := "fnCountBest", unfollowed := true, recurses := true, named := ["loop.example/checksinorder/impl.yesStates"], apart := false, laid := [("loop.example/checksinorder/impl.yesStates", laid_loop_example_checksinorder_impl_yesStates)], narrowed := true }
def FnCountBestUptoSaid : Prop := fnCountBestUptoRow.holds Tryd.pinned (OpenSpec.upto fnCountBestSpec)

/-- 'laws.FnTwoOfThree', WHERE WHAT IT READS IS OF BULK AT MOST 1048576: true; the input reads as it did. -/
def fnTwoOfThreeUptoRow : OpenClaim := { program := "ytahkmbihhkjebabdoor", sum := "151a9b9a5db9eef62c9a4f2bb8d126c9f4490aa30ef6b8a5e839abd4c5679483", func := "loop.example/checksinorder/laws.FnTwoOfThree", spec := "fnTwoOfThree", unfollowed := true, recurses := true, named := ["loop.example/checksinorder/impl.yesStates"], apart := false, laid := [("loop.example/checksinorder/impl.yesStates", laid_loop_example_checksinorder_impl_yesStates)], narrowed := true }
def FnTwoOfThreeUptoSaid : Prop := fnTwoOfThreeUptoRow.holds Tryd.pinned (OpenSpec.upto fnTwoOfThreeSpec)

/-- 'laws.FnGroupPlan', WHERE WHAT IT READS IS OF BULK AT MOST 1048576: true; the input reads as it did. -/
def fnGroupPlanUptoRow : OpenClaim := { program := "ytahkmbihhkjebabdoor", sum := "151a9b9a5db9eef62c9a4f2bb8d126c9f4490aa30ef6b8a5e839abd4c5679483", func := "loop.example/checksinorder/laws.FnGroupPlan", spec := "fnGroupPlan", inPlace := ["slices.overlaps[int]", "slices.overlaps[loop.example/checksinorder/impl.askedGroup]"], unfollowed := true, recurses := true, named := ["loop.example/checksinorder/impl.yesStates"], apart := false, laid := [("loop.example/checksinorder/impl.yesStates", laid_loop_example_checksinorder_impl_yesStates)], narrowed := true }
def FnGroupPlanUptoSaid : Prop := fnGroupPlanUptoRow.holds Tryd.pinned (OpenSpec.upto fnGroupPlanSpec)

/-- 'laws.FnBestAverage', WHERE WHAT IT READS IS OF BULK AT MOST 1048576: true; the input reads as it did. -/
def fnBestAverageUptoRow : OpenClaim := { program := "ytahkmbihhkjebabdoor", sum := "151a9b9a5db9eef62c9a4f2bb8d126c9f4490aa30ef6b8a5e839abd4c5679483", func := "loop.example/checksinorder/laws.FnBestAverage", spec := "fnBestAverage", inPlace := ["slices.overlaps[int]"], unfollowed := true, recurses := true, named := ["loop.example/checksinorder/impl.yesStates"], apart := false, laid := [("loop.example/checksinorder/impl.yesStates", laid_loop_example_checksinorder_impl_yesStates)], narrowed := true }
def FnBestAverageUptoSaid : Prop := fnBestAverageUptoRow.holds Tryd.pinned (OpenSpec.upto fnBestAverageSpec)

/-- 'laws.FnGroupAverage', WHERE WHAT IT READS IS OF BULK AT MOST 1048576: true; the input reads as it did. -/
def fnGroupAverageUptoRow : OpenClaim := { program := "ytahkmbihhkjebabdoor", sum := "151a9b9a5db9eef62c9a4f2bb8d126c9f4490aa30ef6b8a5e839abd4c5679483", func := "loop.example/checksinorder/laws.FnGroupAverage", spec := "fnGroupAverage", inPlace := ["slices.overlaps[int]", "slices.overlaps[loop.example/checksinorder/impl.askedGroup]"], unfollowed := true, recurses := true, named := ["loop.example/checksinorder/impl.yesStates"], apart := false, laid := [("loop.example/checksinorder/impl.yesStates", laid_loop_example_checksinorder_impl_yesStates)], narrowed := true }
def FnGroupAverageUptoSaid : Prop := fnGroupAverageUptoRow.holds Tryd.pinned (OpenSpec.upto fnGroupAverageSpec)

/-- 'laws.FnGroupsDual', WHERE WHAT IT READS IS OF BULK AT MOST 1048576: true; the input reads as it did. -/
def fnGroupsDualUptoRow : OpenClaim := { program := "ytahkmbihhkjebabdoor", sum := "151a9b9a5db9eef62c9a4f2bb8d126c9f4490aa30ef6b8a5e839abd4c5679483", func := "loop.example/checksinorder/laws.FnGroupsDual", spec := "fnGroupsDual", inPlace := ["slices.overlaps[int]", "slices.overlaps[loop.example/checksinorder/impl.askedGroup]"], unfollowed := true, recurses := true, named := ["loop.example/checksinorder/impl.yesStates"], apart := false, laid := [("loop.example/checksinorder/impl.yesStates", laid_loop_example_checksinorder_impl_yesStates)], narrowed := true }
def FnGroupsDualUptoSaid : Prop := fnGroupsDualUptoRow.holds Tryd.pinned (OpenSpec.upto fnGroupsDualSpec)

/-- 'laws.FnDearer', WHERE WHAT IT READS IS OF BULK AT MOST 1048576: true; the input reads as it did. -/
def fnDearerUptoRow : OpenClaim := { program := "ytahkmbihhkjebabdoor", sum := "151a9b9a5db9eef62c9a4f2bb8d126c9f4490aa30ef6b8a5e839abd4c5679483", func := "loop.example/checksinorder/laws.FnDearer", spec := "fnDearer", unfollowed := true, recurses := true, named := ["loop.example/checksinorder/impl.yesStates"], apart := false, laid := [("loop.example/checksinorder/impl.yesStates", laid_loop_example_checksinorder_impl_yesStates)], narrowed := true }
def FnDearerUptoSaid : Prop := fnDearerUptoRow.holds Tryd.pinned (OpenSpec.upto fnDearerSpec)

end Rows
end Go.Proofs.YtahkmbihhkjebabDoor
