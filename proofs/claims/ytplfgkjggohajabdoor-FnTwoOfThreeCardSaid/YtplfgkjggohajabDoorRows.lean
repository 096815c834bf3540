/-
  NARROWER THAN 'FOR EVERY INPUT', by the rows' own cells (each row's printed sentence says how): FnPlanText: laid · FnReadPlan: laid · FnTurnedPlan: laid · FnStopsOf: laid · FnNotText: laid · FnExactPlanText: laid · FnExactReadPlan: laid · FnExactTurnedPlan: laid · FnExactStopsOf: laid · FnTwoOfThree: laid.
  DERIVED. THE GIVEN ROWS OF THIS SEAT. 10 by the template 'for every input the law returns true; each argument reads behind the call as it read before'; 0 by the template 'total and deterministic' (their statements: YtplfgkjggohajabDoorTotals.lean).
  GIVEN WITH THE SEED: the statements are not yours to turn. If you find one false, say at which input.
  Laid BY PROGRAM, IN A SANDBOX (cutbox-rows.mjs): the forced cells as the released guide's own fill.sh prints them over the translation b3d9e5f02e216fec… (all of the seat's roots in one cut). By AI agents, Wed Nov 11 2026. No macro, syntax, notation, axiom, sorry.
-/
import Derived.Test.YtplfgkjggohajabDoorChecked
import GoSem.Claim
import GoSem.ClaimJoined
import GoSem.ClaimMapViews
import Derived.JoinedTies
import Derived.KernelRfl
namespace Go.Proofs.YtplfgkjggohajabDoor
/- THE CELL 'sum', in the pinned program and in every row, IS THE sha256 OF THE DUMP (.gsa) THAT YtplfgkjggohajabDoorProg.lean LOADS. Nothing in Lean hashes anything: it is a label: what it is worth is what the hold of that sum in a sandbox is worth. -/
noncomputable def Tryd.pinned : Pinned := { name := "ytplfgkjggohajabdoor", sum := "b3d9e5f02e216fec1bf931cc1356aa9c5616df7b79ddbd9e50f966734c33daaf", checked := Tryd.checked }
namespace Rows
def none {H : Type} : Left H := { results := [], args := [] }

/- WHAT THE LISTED PACKAGE-LEVEL VARIABLES READ AS WHEN THE CALL BEGINS. Each datum BY PROGRAM (the guide's laid-datum.mjs) off the statement by which the dump's own 'gosem.cut.vars' lays the variable. In a bare row this is a premise. The card (YtplfgkjggohajabDoorCards.lean) ties it to the program's text. -/
def laid_loop_example_checksinorder_impl_yesStates {H : Type} : DataW H := .agg [.lit (.int .u32 2863311530), .lit (.int .u32 3435973836), .lit (.int .u32 4042322160), .lit (.int .u32 4278255360), .lit (.int .u32 4294901760)]

/-- 'laws.FnPlanText': WHATEVER THE INPUT: true; the input reads as it did. -/
def fnPlanTextSpec : ChangeSpec := { name := "fnPlanText", vars := ["loop.example/checksinorder/impl.yesStates"], fn := fun _ => fun
  | [d, g1] => { results := [.lit (.bool true)], args := [d], vars := [g1] }
  | _ => none }
def fnPlanTextRow : OpenClaim := { program := "ytplfgkjggohajabdoor", sum := "b3d9e5f02e216fec1bf931cc1356aa9c5616df7b79ddbd9e50f966734c33daaf", func := "loop.example/checksinorder/laws.FnPlanText", spec := "fnPlanText", unfollowed := true, recurses := true, named := ["loop.example/checksinorder/impl.yesStates"], apart := false, laid := [("loop.example/checksinorder/impl.yesStates", laid_loop_example_checksinorder_impl_yesStates)] }
def FnPlanTextSaid : Prop := fnPlanTextRow.holds Tryd.pinned (OpenSpec.ofChange fnPlanTextSpec)

/-- ITS FALSE NEIGHBOUR: 'it returns false'. Refute it at one input. -/
def fnPlanTextWrong : ChangeSpec := { name := "fnPlanText", vars := ["loop.example/checksinorder/impl.yesStates"], fn := fun _ => fun
  | [d, g1] => { results := [.lit (.bool false)], args := [d], vars := [g1] }
  | _ => none }
def FnPlanTextWrongFalsely : Prop := fnPlanTextRow.holds Tryd.pinned (OpenSpec.ofChange fnPlanTextWrong)

/-- 'laws.FnReadPlan': WHATEVER THE INPUT: true; the input reads as it did. -/
def fnReadPlanSpec : ChangeSpec := { name := "fnReadPlan", vars := ["loop.example/checksinorder/impl.yesStates"], fn := fun _ => fun
  | [d, g1] => { results := [.lit (.bool true)], args := [d], vars := [g1] }
  | _ => none }
def fnReadPlanRow : OpenClaim := { program := "ytplfgkjggohajabdoor", sum := "b3d9e5f02e216fec1bf931cc1356aa9c5616df7b79ddbd9e50f966734c33daaf", func := "loop.example/checksinorder/laws.FnReadPlan", spec := "fnReadPlan", unfollowed := true, recurses := true, named := ["loop.example/checksinorder/impl.yesStates"], apart := false, laid := [("loop.example/checksinorder/impl.yesStates", laid_loop_example_checksinorder_impl_yesStates)] }
def FnReadPlanSaid : Prop := fnReadPlanRow.holds Tryd.pinned (OpenSpec.ofChange fnReadPlanSpec)

/-- ITS FALSE NEIGHBOUR: 'it returns false'. Refute it at one input. -/
def fnReadPlanWrong : ChangeSpec := { name := "fnReadPlan", vars := ["loop.example/checksinorder/impl.yesStates"], fn := fun _ => fun
  | [d, g1] => { results := [.lit (.bool false)], args := [d], vars := [g1] }
  | _ => none }
def FnReadPlanWrongFalsely : Prop := fnReadPlanRow.holds Tryd.pinned (OpenSpec.ofChange fnReadPlanWrong)

/-- 'laws.FnTurnedPlan': WHATEVER THE INPUT: true; the input reads as it did. -/
def fnTurnedPlanSpec : ChangeSpec := { name := "fnTurnedPlan", vars := ["loop.example/checksinorder/impl.yesStates"], fn := fun _ => fun
  | [d1, d2, g1] => { results := [.lit (.bool true)], args := [d1, d2], vars := [g1] }
  | _ => none }
def fnTurnedPlanRow : OpenClaim := { program := "ytplfgkjggohajabdoor", sum := "b3d9e5f02e216fec1bf931cc1356aa9c5616df7b79ddbd9e50f966734c33daaf", func := "loop.example/checksinorder/laws.FnTurnedPlan", spec := "fnTurnedPlan", unfollowed := true, recurses := true, named := ["loop.example/checksinorder/impl.yesStates"], apart := false, laid := [("loop.example/checksinorder/impl.yesStates", laid_loop_example_checksinorder_impl_yesStates)] }
def FnTurnedPlanSaid : Prop := fnTurnedPlanRow.holds Tryd.pinned (OpenSpec.ofChange fnTurnedPlanSpec)

/-- ITS FALSE NEIGHBOUR: 'it returns false'. Refute it at one input. -/
def fnTurnedPlanWrong : ChangeSpec := { name := "fnTurnedPlan", vars := ["loop.example/checksinorder/impl.yesStates"], fn := fun _ => fun
  | [d1, d2, g1] => { results := [.lit (.bool false)], args := [d1, d2], vars := [g1] }
  | _ => none }
def FnTurnedPlanWrongFalsely : Prop := fnTurnedPlanRow.holds Tryd.pinned (OpenSpec.ofChange fnTurnedPlanWrong)

/-- 'laws.FnStopsOf': WHATEVER THE INPUT: true; the input reads as it did. -/
def fnStopsOfSpec : ChangeSpec := { name := "fnStopsOf", vars := ["loop.example/checksinorder/impl.yesStates"], fn := fun _ => fun
  | [d, g1] => { results := [.lit (.bool true)], args := [d], vars := [g1] }
  | _ => none }
def fnStopsOfRow : OpenClaim := { program := "ytplfgkjggohajabdoor", sum := "b3d9e5f02e216fec1bf931cc1356aa9c5616df7b79ddbd9e50f966734c33daaf", func := "loop.example/checksinorder/laws.FnStopsOf", spec := "fnStopsOf", unfollowed := true, recurses := true, named := ["loop.example/checksinorder/impl.yesStates"], apart := false, laid := [("loop.example/checksinorder/impl.yesStates", laid_loop_example_checksinorder_impl_yesStates)] }
def FnStopsOfSaid : Prop := fnStopsOfRow.holds Tryd.pinned (OpenSpec.ofChange fnStopsOfSpec)

/-- ITS FALSE NEIGHBOUR: 'it returns false'. Refute it at one input. -/
def fnStopsOfWrong : ChangeSpec := { name := "fnStopsOf", vars := ["loop.example/checksinorder/impl.yesStates"], fn := fun _ => fun
  | [d, g1] => { results := [.lit (.bool false)], args := [d], vars := [g1] }
  | _ => none }
def FnStopsOfWrongFalsely : Prop := fnStopsOfRow.holds Tryd.pinned (OpenSpec.ofChange fnStopsOfWrong)

/-- 'laws.FnNotText': WHATEVER THE INPUT: true; the input reads as it did. -/
def fnNotTextSpec : ChangeSpec := { name := "fnNotText", vars := ["loop.example/checksinorder/impl.yesStates"], fn := fun _ => fun
  | [d, g1] => { results := [.lit (.bool true)], args := [d], vars := [g1] }
  | _ => none }
def fnNotTextRow : OpenClaim := { program := "ytplfgkjggohajabdoor", sum := "b3d9e5f02e216fec1bf931cc1356aa9c5616df7b79ddbd9e50f966734c33daaf", func := "loop.example/checksinorder/laws.FnNotText", spec := "fnNotText", unfollowed := true, recurses := true, named := ["loop.example/checksinorder/impl.yesStates"], apart := false, laid := [("loop.example/checksinorder/impl.yesStates", laid_loop_example_checksinorder_impl_yesStates)] }
def FnNotTextSaid : Prop := fnNotTextRow.holds Tryd.pinned (OpenSpec.ofChange fnNotTextSpec)

/-- ITS FALSE NEIGHBOUR: 'it returns false'. Refute it at one input. -/
def fnNotTextWrong : ChangeSpec := { name := "fnNotText", vars := ["loop.example/checksinorder/impl.yesStates"], fn := fun _ => fun
  | [d, g1] => { results := [.lit (.bool false)], args := [d], vars := [g1] }
  | _ => none }
def FnNotTextWrongFalsely : Prop := fnNotTextRow.holds Tryd.pinned (OpenSpec.ofChange fnNotTextWrong)

/-- 'laws.FnExactPlanText': WHATEVER THE INPUT: true; the input reads as it did. -/
def fnExactPlanTextSpec : ChangeSpec := { name := "fnExactPlanText", vars := ["loop.example/checksinorder/impl.yesStates"], fn := fun _ => fun
  | [d1, d2, d3, g1] => { results := [.lit (.bool true)], args := [d1, d2, d3], vars := [g1] }
  | _ => none }
def fnExactPlanTextRow : OpenClaim := { program := "ytplfgkjggohajabdoor", sum := "b3d9e5f02e216fec1bf931cc1356aa9c5616df7b79ddbd9e50f966734c33daaf", func := "loop.example/checksinorder/laws.FnExactPlanText", spec := "fnExactPlanText", unfollowed := true, recurses := true, named := ["loop.example/checksinorder/impl.yesStates"], apart := false, laid := [("loop.example/checksinorder/impl.yesStates", laid_loop_example_checksinorder_impl_yesStates)] }
def FnExactPlanTextSaid : Prop := fnExactPlanTextRow.holds Tryd.pinned (OpenSpec.ofChange fnExactPlanTextSpec)

/-- ITS FALSE NEIGHBOUR: 'it returns false'. Refute it at one input. -/
def fnExactPlanTextWrong : ChangeSpec := { name := "fnExactPlanText", vars := ["loop.example/checksinorder/impl.yesStates"], fn := fun _ => fun
  | [d1, d2, d3, g1] => { results := [.lit (.bool false)], args := [d1, d2, d3], vars := [g1] }
  | _ => none }
def FnExactPlanTextWrongFalsely : Prop := fnExactPlanTextRow.holds Tryd.pinned (OpenSpec.ofChange fnExactPlanTextWrong)

/-- 'laws.FnExactReadPlan': WHATEVER THE INPUT: true; the input reads as it did. -/
def fnExactReadPlanSpec : ChangeSpec := { name := "fnExactReadPlan", vars := ["loop.example/checksinorder/impl.yesStates"], fn := fun _ => fun
  | [d1, d2, d3, g1] => { results := [.lit (.bool true)], args := [d1, d2, d3], vars := [g1] }
  | _ => none }
def fnExactReadPlanRow : OpenClaim := { program := "ytplfgkjggohajabdoor", sum := "b3d9e5f02e216fec1bf931cc1356aa9c5616df7b79ddbd9e50f966734c33daaf", func := "loop.example/checksinorder/laws.FnExactReadPlan", spec := "fnExactReadPlan", unfollowed := true, recurses := true, named := ["loop.example/checksinorder/impl.yesStates"], apart := false, laid := [("loop.example/checksinorder/impl.yesStates", laid_loop_example_checksinorder_impl_yesStates)] }
def FnExactReadPlanSaid : Prop := fnExactReadPlanRow.holds Tryd.pinned (OpenSpec.ofChange fnExactReadPlanSpec)

/-- ITS FALSE NEIGHBOUR: 'it returns false'. Refute it at one input. -/
def fnExactReadPlanWrong : ChangeSpec := { name := "fnExactReadPlan", vars := ["loop.example/checksinorder/impl.yesStates"], fn := fun _ => fun
  | [d1, d2, d3, g1] => { results := [.lit (.bool false)], args := [d1, d2, d3], vars := [g1] }
  | _ => none }
def FnExactReadPlanWrongFalsely : Prop := fnExactReadPlanRow.holds Tryd.pinned (OpenSpec.ofChange fnExactReadPlanWrong)

/-- 'laws.FnExactTurnedPlan': WHATEVER THE INPUT: true; the input reads as it did. -/
def fnExactTurnedPlanSpec : ChangeSpec := { name := "fnExactTurnedPlan", vars := ["loop.example/checksinorder/impl.yesStates"], fn := fun _ => fun
  | [d1, d2, d3, g1] => { results := [.lit (.bool true)], args := [d1, d2, d3], vars := [g1] }
  | _ => none }
def fnExactTurnedPlanRow : OpenClaim := { program := "ytplfgkjggohajabdoor", sum := "b3d9e5f02e216fec1bf931cc1356aa9c5616df7b79ddbd9e50f966734c33daaf", func := "loop.example/checksinorder/laws.FnExactTurnedPlan", spec := "fnExactTurnedPlan", unfollowed := true, recurses := true, named := ["loop.example/checksinorder/impl.yesStates"], apart := false, laid := [("loop.example/checksinorder/impl.yesStates", laid_loop_example_checksinorder_impl_yesStates)] }
def FnExactTurnedPlanSaid : Prop := fnExactTurnedPlanRow.holds Tryd.pinned (OpenSpec.ofChange fnExactTurnedPlanSpec)

/-- ITS FALSE NEIGHBOUR: 'it returns false'. Refute it at one input. -/
def fnExactTurnedPlanWrong : ChangeSpec := { name := "fnExactTurnedPlan", vars := ["loop.example/checksinorder/impl.yesStates"], fn := fun _ => fun
  | [d1, d2, d3, g1] => { results := [.lit (.bool false)], args := [d1, d2, d3], vars := [g1] }
  | _ => none }
def FnExactTurnedPlanWrongFalsely : Prop := fnExactTurnedPlanRow.holds Tryd.pinned (OpenSpec.ofChange fnExactTurnedPlanWrong)

/-- 'laws.FnExactStopsOf': WHATEVER THE INPUT: true; the input reads as it did. -/
def fnExactStopsOfSpec : ChangeSpec := { name := "fnExactStopsOf", vars := ["loop.example/checksinorder/impl.yesStates"], fn := fun _ => fun
  | [d1, d2, d3, d4, g1] => { results := [.lit (.bool true)], args := [d1, d2, d3, d4], vars := [g1] }
  | _ => none }
def fnExactStopsOfRow : OpenClaim := { program := "ytplfgkjggohajabdoor", sum := "b3d9e5f02e216fec1bf931cc1356aa9c5616df7b79ddbd9e50f966734c33daaf", func := "loop.example/checksinorder/laws.FnExactStopsOf", spec := "fnExactStopsOf", unfollowed := true, recurses := true, named := ["loop.example/checksinorder/impl.yesStates"], apart := false, laid := [("loop.example/checksinorder/impl.yesStates", laid_loop_example_checksinorder_impl_yesStates)] }
def FnExactStopsOfSaid : Prop := fnExactStopsOfRow.holds Tryd.pinned (OpenSpec.ofChange fnExactStopsOfSpec)

/-- ITS FALSE NEIGHBOUR: 'it returns false'. Refute it at one input. -/
def fnExactStopsOfWrong : ChangeSpec := { name := "fnExactStopsOf", vars := ["loop.example/checksinorder/impl.yesStates"], fn := fun _ => fun
  | [d1, d2, d3, d4, g1] => { results := [.lit (.bool false)], args := [d1, d2, d3, d4], vars := [g1] }
  | _ => none }
def FnExactStopsOfWrongFalsely : Prop := fnExactStopsOfRow.holds Tryd.pinned (OpenSpec.ofChange fnExactStopsOfWrong)

/-- 'laws.FnTwoOfThree': WHATEVER THE INPUT: true; the input reads as it did. -/
def fnTwoOfThreeSpec : ChangeSpec := { name := "fnTwoOfThree", vars := ["loop.example/checksinorder/impl.yesStates"], fn := fun _ => fun
  | [d, g1] => { results := [.lit (.bool true)], args := [d], vars := [g1] }
  | _ => none }
def fnTwoOfThreeRow : OpenClaim := { program := "ytplfgkjggohajabdoor", sum := "b3d9e5f02e216fec1bf931cc1356aa9c5616df7b79ddbd9e50f966734c33daaf", func := "loop.example/checksinorder/laws.FnTwoOfThree", spec := "fnTwoOfThree", unfollowed := true, recurses := true, named := ["loop.example/checksinorder/impl.yesStates"], apart := false, laid := [("loop.example/checksinorder/impl.yesStates", laid_loop_example_checksinorder_impl_yesStates)] }
def FnTwoOfThreeSaid : Prop := fnTwoOfThreeRow.holds Tryd.pinned (OpenSpec.ofChange fnTwoOfThreeSpec)

/-- ITS FALSE NEIGHBOUR: 'it returns false'. Refute it at one input. -/
def fnTwoOfThreeWrong : ChangeSpec := { name := "fnTwoOfThree", vars := ["loop.example/checksinorder/impl.yesStates"], fn := fun _ => fun
  | [d, g1] => { results := [.lit (.bool false)], args := [d], vars := [g1] }
  | _ => none }
def FnTwoOfThreeWrongFalsely : Prop := fnTwoOfThreeRow.holds Tryd.pinned (OpenSpec.ofChange fnTwoOfThreeWrong)

/- THE SECOND FORM. 'bulk': how many values and letters a reading holds, each counted each time it is reached (what is shared counts as often as it is met; a slice's spare places count too). A statement '..UptoSaid' is the law's where the arguments, and the package variables that the reading takes, are together of bulk at most 1048576: NARROWER than '..Said'. Prove '..Said' where nothing that the law and all that it calls make is longer than what came in: it says more and counts as full. Else prove '..UptoSaid'. A law counts once. -/
mutual
def uptoBulk {H : Type} : DataW H → Nat
  | .lit (.string bytes) => bytes.length + 1
  | .lit _ => 1
  | .nil => 1
  | .ptr d => uptoBulk d + 1
  | .slice elems spare => uptoBulkAll elems + uptoBulkAll spare + 1
  | .agg parts => uptoBulkAll parts + 1
  | .iface _ d => uptoBulk d + 1
  | .map entries => uptoBulkEntries entries + 1
  | .held _ => 1
def uptoBulkAll {H : Type} : List (DataW H) → Nat
  | [] => 0
  | d :: r => uptoBulk d + uptoBulkAll r
def uptoBulkEntries {H : Type} : List (Lit × DataW H) → Nat
  | [] => 0
  | x :: r => uptoBulkEntry x + uptoBulkEntries r
def uptoBulkEntry {H : Type} : Lit × DataW H → Nat
  | (.string bytes, d) => bytes.length + uptoBulk d + 1
  | (_, d) => uptoBulk d + 1
 end
def uptoSmall : (H : Type) → List (DataW H) → Bool := fun _ ds => decide (uptoBulkAll ds ≤ 1048576)
def OpenSpec.upto (s : _root_.Go.ChangeSpec) : _root_.Go.OpenSpec := { _root_.Go.OpenSpec.ofChange s with cond := some uptoSmall }

/-- 'laws.FnPlanText', WHERE WHAT IT READS IS OF BULK AT MOST 1048576: true; the input reads as it did. -/
def fnPlanTextUptoRow : OpenClaim := { program := "ytplfgkjggohajabdoor", sum := "b3d9e5f02e216fec1bf931cc1356aa9c5616df7b79ddbd9e50f966734c33daaf", func := "loop.example/checksinorder/laws.FnPlanText", spec := "fnPlanText", unfollowed := true, recurses := true, named := ["loop.example/checksinorder/impl.yesStates"], apart := false, laid := [("loop.example/checksinorder/impl.yesStates", laid_loop_example_checksinorder_impl_yesStates)], narrowed := true }
def FnPlanTextUptoSaid : Prop := fnPlanTextUptoRow.holds Tryd.pinned (OpenSpec.upto fnPlanTextSpec)

/-- 'laws.FnReadPlan', WHERE WHAT IT READS IS OF BULK AT MOST 1048576: true; the input reads as it did. -/
def fnReadPlanUptoRow : OpenClaim := { program := "ytplfgkjggohajabdoor", sum := "b3d9e5f02e216fec1bf931cc1356aa9c5616df7b79ddbd9e50f966734c33daaf", func := "loop.example/checksinorder/laws.FnReadPlan", spec := "fnReadPlan", unfollowed := true, recurses := true, named := ["loop.example/checksinorder/impl.yesStates"], apart := false, laid := [("loop.example/checksinorder/impl.yesStates", laid_loop_example_checksinorder_impl_yesStates)], narrowed := true }
def FnReadPlanUptoSaid : Prop := fnReadPlanUptoRow.holds Tryd.pinned (OpenSpec.upto fnReadPlanSpec)

/-- 'laws.FnTurnedPlan', WHERE WHAT IT READS IS OF BULK AT MOST 1048576: true; the input reads as it did. -/
def fnTurnedPlanUptoRow : OpenClaim := { program := "ytplfgkjggohajabdoor", sum := "b3d9e5f02e216fec1bf931cc1356aa9c5616df7b79ddbd9e50f966734c33daaf", func := "loop.example/checksinorder/laws.FnTurnedPlan", spec := "fnTurnedPlan", unfollowed := true, recurses := true, named := ["loop.example/checksinorder/impl.yesStates"], apart := false, laid := [("loop.example/checksinorder/impl.yesStates", laid_loop_example_checksinorder_impl_yesStates)], narrowed := true }
def FnTurnedPlanUptoSaid : Prop := fnTurnedPlanUptoRow.holds Tryd.pinned (OpenSpec.upto fnTurnedPlanSpec)

/-- 'laws.FnStopsOf', WHERE WHAT IT READS IS OF BULK AT MOST 1048576: true; the input reads as it did. -/
def fnStopsOfUptoRow : OpenClaim := { program := "ytplfgkjggohajabdoor", sum := "b3d9e5f02e216fec1bf931cc1356aa9c5616df7b79ddbd9e50f966734c33daaf", func := "loop.example/checksinorder/laws.FnStopsOf", spec := "fnStopsOf", unfollowed := true, recurses := true, named := ["loop.example/checksinorder/impl.yesStates"], apart := false, laid := [("loop.example/checksinorder/impl.yesStates", laid_loop_example_checksinorder_impl_yesStates)], narrowed := true }
def FnStopsOfUptoSaid : Prop := fnStopsOfUptoRow.holds Tryd.pinned (OpenSpec.upto fnStopsOfSpec)

/-- 'laws.FnNotText', WHERE WHAT IT READS IS OF BULK AT MOST 1048576: true; the input reads as it did. -/
def fnNotTextUptoRow : OpenClaim := { program := "ytplfgkjggohajabdoor", sum := "b3d9e5f02e216fec1bf931cc1356aa9c5616df7b79ddbd9e50f966734c33daaf", func := "loop.example/checksinorder/laws.FnNotText", spec := "fnNotText", unfollowed := true, recurses := true, named := ["loop.example/checksinorder/impl.yesStates"], apart := false, laid := [("loop.example/checksinorder/impl.yesStates", laid_loop_example_checksinorder_impl_yesStates)], narrowed := true }
def FnNotTextUptoSaid : Prop := fnNotTextUptoRow.holds Tryd.pinned (OpenSpec.upto fnNotTextSpec)

/-- 'laws.FnExactPlanText', WHERE WHAT IT READS IS OF BULK AT MOST 1048576: true; the input reads as it did. -/
def fnExactPlanTextUptoRow : OpenClaim := { program := "ytplfgkjggohajabdoor", sum := "b3d9e5f02e216fec1bf931cc1356aa9c5616df7b79ddbd9e50f966734c33daaf", func := "loop.example/checksinorder/laws.FnExactPlanText", spec := "fnExactPlanText", unfollowed := true, recurses := true, named := ["loop.example/checksinorder/impl.yesStates"], apart := false, laid := [("loop.example/checksinorder/impl.yesStates", laid_loop_example_checksinorder_impl_yesStates)], narrowed := true }
def FnExactPlanTextUptoSaid : Prop := fnExactPlanTextUptoRow.holds Tryd.pinned (OpenSpec.upto fnExactPlanTextSpec)

/-- 'laws.FnExactReadPlan', WHERE WHAT IT READS IS OF BULK AT MOST 1048576: true; the input reads as it did. -/
def fnExactReadPlanUptoRow : OpenClaim := { program := "ytplfgkjggohajabdoor", sum := "b3d9e5f02e216fec1bf931cc1356aa9c5616df7b79ddbd9e50f966734c33daaf", func := "loop.example/checksinorder/laws.FnExactReadPlan", spec := "fnExactReadPlan", unfollowed := true, recurses := true, named := ["loop.example/checksinorder/impl.yesStates"], apart := false, laid := [("loop.example/checksinorder/impl.yesStates", laid_loop_example_checksinorder_impl_yesStates)], narrowed := true }
def FnExactReadPlanUptoSaid : Prop := fnExactReadPlanUptoRow.holds Tryd.pinned (OpenSpec.upto fnExactReadPlanSpec)

/-- 'laws.FnExactTurnedPlan', WHERE WHAT IT READS IS OF BULK AT MOST 1048576: true; the input reads as it did. -/
def fnExactTurnedPlanUptoRow : OpenClaim := { program := "ytplfgkjggohajabdoor", sum := "b3d9e5f02e216fec1bf931cc1356aa9c5616df7b79ddbd9e50f966734c33daaf", func := "loop.example/checksinorder/laws.FnExactTurnedPlan", spec := "fnExactTurnedPlan", unfollowed := true, recurses := true, named := ["loop.example/checksinorder/impl.yesStates"], apart := false, laid := [("loop.example/checksinorder/impl.yesStates", laid_loop_example_checksinorder_impl_yesStates)], narrowed := true }
def FnExactTurnedPlanUptoSaid : Prop := fnExactTurnedPlanUptoRow.holds Tryd.pinned (OpenSpec.upto fnExactTurnedPlanSpec)

/-- 'laws.FnExactStopsOf', WHERE WHAT IT READS IS OF BULK AT MOST 1048576: true; the input reads as it did. -/
def fnExactStopsOfUptoRow : OpenClaim := { program := "ytplfgkjggohajabdoor", sum := "b3d9e5f02e216fec1bf931cc1356aa9c5616df7b79ddbd9e50f966734c33daaf", func := "loop.example/checksinorder/laws.FnExactStopsOf", spec := "fnExactStopsOf", unfollowed := true, recurses := true, named := ["loop.example/checksinorder/impl.yesStates"], apart := false, laid := [("loop.example/checksinorder/impl.yesStates", laid_loop_example_checksinorder_impl_yesStates)], narrowed := true }
def FnExactStopsOfUptoSaid : Prop := fnExactStopsOfUptoRow.holds Tryd.pinned (OpenSpec.upto fnExactStopsOfSpec)

/-- 'laws.FnTwoOfThree', WHERE WHAT IT READS IS OF BULK AT MOST 1048576: true; the input reads as it did. -/
def fnTwoOfThreeUptoRow : OpenClaim := { program := "ytplfgkjggohajabdoor", sum := "b3d9e5f02e216fec1bf931cc1356aa9c5616df7b79ddbd9e50f966734c33daaf", func := "loop.example/checksinorder/laws.FnTwoOfThree", spec := "fnTwoOfThree", unfollowed := true, recurses := true, named := ["loop.example/checksinorder/impl.yesStates"], apart := false, laid := [("loop.example/checksinorder/impl.yesStates", laid_loop_example_checksinorder_impl_yesStates)], narrowed := true }
def FnTwoOfThreeUptoSaid : Prop := fnTwoOfThreeUptoRow.holds Tryd.pinned (OpenSpec.upto fnTwoOfThreeSpec)

end Rows
end Go.Proofs.YtplfgkjggohajabDoor
