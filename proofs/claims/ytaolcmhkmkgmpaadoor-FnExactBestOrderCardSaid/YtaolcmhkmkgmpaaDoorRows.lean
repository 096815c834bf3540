/-
  NARROWER THAN 'FOR EVERY INPUT', by the rows' own cells (each row's printed sentence says how): FnExactAskedIn: laid · FnExactCostIn: laid · FnExactAverageIn: laid · FnExactBestOrder: laid · FnAskedIn: laid · FnCostIn: laid · FnAverageIn: laid · FnBestOrder: laid · FnIdleLast: laid.
  DERIVED. THE GIVEN ROWS OF THIS SEAT. 9 by the template 'for every input the law returns true; each argument reads behind the call as it read before'; 0 by the template 'total and deterministic' (their statements: YtaolcmhkmkgmpaaDoorTotals.lean).
  GIVEN WITH THE SEED: the statements are not yours to turn. If you find one false, say at which input.
  Laid BY PROGRAM, IN A SANDBOX (cutbox-rows.mjs): the forced cells as the released guide's own fill.sh prints them over the translation 1d00481894cdac4d… (all of the seat's roots in one cut). By AI agents, Wed Nov 11 2026. No macro, syntax, notation, axiom, sorry.
-/
import Derived.Test.YtaolcmhkmkgmpaaDoorChecked
import GoSem.Claim
import GoSem.ClaimJoined
import GoSem.ClaimMapViews
import Derived.JoinedTies
import Derived.KernelRfl
namespace Go.Proofs.YtaolcmhkmkgmpaaDoor
/- THE CELL 'sum', in the pinned program and in every row, IS THE sha256 OF THE DUMP (.gsa) THAT YtaolcmhkmkgmpaaDoorProg.lean LOADS. Nothing in Lean hashes anything: it is a label: what it is worth is what the hold of that sum in a sandbox is worth. -/
noncomputable def Tryd.pinned : Pinned := { name := "ytaolcmhkmkgmpaadoor", sum := "1d00481894cdac4da3cfb9ac6d99281cfd95c9a9f15cc53ad6f80b52ca5e8b74", checked := Tryd.checked }
namespace Rows
def none {H : Type} : Left H := { results := [], args := [] }

/- WHAT THE LISTED PACKAGE-LEVEL VARIABLES READ AS WHEN THE CALL BEGINS. Each datum BY PROGRAM (the guide's laid-datum.mjs) off the statement by which the dump's own 'gosem.cut.vars' lays the variable. In a bare row this is a premise. The card (YtaolcmhkmkgmpaaDoorCards.lean) ties it to the program's text. -/
def laid_loop_example_checksinorder_impl_yesStates {H : Type} : DataW H := .agg [.lit (.int .u32 2863311530), .lit (.int .u32 3435973836), .lit (.int .u32 4042322160), .lit (.int .u32 4278255360), .lit (.int .u32 4294901760)]

/-- 'laws.FnExactAskedIn': WHATEVER THE INPUT: true; the input reads as it did. -/
def fnExactAskedInSpec : ChangeSpec := { name := "fnExactAskedIn", vars := ["loop.example/checksinorder/impl.yesStates"], fn := fun _ => fun
  | [d1, d2, d3, d4, g1] => { results := [.lit (.bool true)], args := [d1, d2, d3, d4], vars := [g1] }
  | _ => none }
def fnExactAskedInRow : OpenClaim := { program := "ytaolcmhkmkgmpaadoor", sum := "1d00481894cdac4da3cfb9ac6d99281cfd95c9a9f15cc53ad6f80b52ca5e8b74", func := "loop.example/checksinorder/laws.FnExactAskedIn", spec := "fnExactAskedIn", unfollowed := true, recurses := true, named := ["loop.example/checksinorder/impl.yesStates"], apart := false, laid := [("loop.example/checksinorder/impl.yesStates", laid_loop_example_checksinorder_impl_yesStates)] }
def FnExactAskedInSaid : Prop := fnExactAskedInRow.holds Tryd.pinned (OpenSpec.ofChange fnExactAskedInSpec)

/-- ITS FALSE NEIGHBOUR: 'it returns false'. Refute it at one input. -/
def fnExactAskedInWrong : ChangeSpec := { name := "fnExactAskedIn", vars := ["loop.example/checksinorder/impl.yesStates"], fn := fun _ => fun
  | [d1, d2, d3, d4, g1] => { results := [.lit (.bool false)], args := [d1, d2, d3, d4], vars := [g1] }
  | _ => none }
def FnExactAskedInWrongFalsely : Prop := fnExactAskedInRow.holds Tryd.pinned (OpenSpec.ofChange fnExactAskedInWrong)

/-- 'laws.FnExactCostIn': WHATEVER THE INPUT: true; the input reads as it did. -/
def fnExactCostInSpec : ChangeSpec := { name := "fnExactCostIn", vars := ["loop.example/checksinorder/impl.yesStates"], fn := fun _ => fun
  | [d1, d2, d3, d4, g1] => { results := [.lit (.bool true)], args := [d1, d2, d3, d4], vars := [g1] }
  | _ => none }
def fnExactCostInRow : OpenClaim := { program := "ytaolcmhkmkgmpaadoor", sum := "1d00481894cdac4da3cfb9ac6d99281cfd95c9a9f15cc53ad6f80b52ca5e8b74", func := "loop.example/checksinorder/laws.FnExactCostIn", spec := "fnExactCostIn", unfollowed := true, recurses := true, named := ["loop.example/checksinorder/impl.yesStates"], apart := false, laid := [("loop.example/checksinorder/impl.yesStates", laid_loop_example_checksinorder_impl_yesStates)] }
def FnExactCostInSaid : Prop := fnExactCostInRow.holds Tryd.pinned (OpenSpec.ofChange fnExactCostInSpec)

/-- ITS FALSE NEIGHBOUR: 'it returns false'. Refute it at one input. -/
def fnExactCostInWrong : ChangeSpec := { name := "fnExactCostIn", vars := ["loop.example/checksinorder/impl.yesStates"], fn := fun _ => fun
  | [d1, d2, d3, d4, g1] => { results := [.lit (.bool false)], args := [d1, d2, d3, d4], vars := [g1] }
  | _ => none }
def FnExactCostInWrongFalsely : Prop := fnExactCostInRow.holds Tryd.pinned (OpenSpec.ofChange fnExactCostInWrong)

/-- 'laws.FnExactAverageIn': WHATEVER THE INPUT: true; the input reads as it did. -/
def fnExactAverageInSpec : ChangeSpec := { name := "fnExactAverageIn", vars := ["loop.example/checksinorder/impl.yesStates"], fn := fun _ => fun
  | [d1, d2, d3, g1] => { results := [.lit (.bool true)], args := [d1, d2, d3], vars := [g1] }
  | _ => none }
def fnExactAverageInRow : OpenClaim := { program := "ytaolcmhkmkgmpaadoor", sum := "1d00481894cdac4da3cfb9ac6d99281cfd95c9a9f15cc53ad6f80b52ca5e8b74", func := "loop.example/checksinorder/laws.FnExactAverageIn", spec := "fnExactAverageIn", unfollowed := true, recurses := true, named := ["loop.example/checksinorder/impl.yesStates"], apart := false, laid := [("loop.example/checksinorder/impl.yesStates", laid_loop_example_checksinorder_impl_yesStates)] }
def FnExactAverageInSaid : Prop := fnExactAverageInRow.holds Tryd.pinned (OpenSpec.ofChange fnExactAverageInSpec)

/-- ITS FALSE NEIGHBOUR: 'it returns false'. Refute it at one input. -/
def fnExactAverageInWrong : ChangeSpec := { name := "fnExactAverageIn", vars := ["loop.example/checksinorder/impl.yesStates"], fn := fun _ => fun
  | [d1, d2, d3, g1] => { results := [.lit (.bool false)], args := [d1, d2, d3], vars := [g1] }
  | _ => none }
def FnExactAverageInWrongFalsely : Prop := fnExactAverageInRow.holds Tryd.pinned (OpenSpec.ofChange fnExactAverageInWrong)

/-- 'laws.FnExactBestOrder': WHATEVER THE INPUT: true; the input reads as it did. -/
def fnExactBestOrderSpec : ChangeSpec := { name := "fnExactBestOrder", vars := ["loop.example/checksinorder/impl.yesStates"], fn := fun _ => fun
  | [d1, d2, g1] => { results := [.lit (.bool true)], args := [d1, d2], vars := [g1] }
  | _ => none }
def fnExactBestOrderRow : OpenClaim := { program := "ytaolcmhkmkgmpaadoor", sum := "1d00481894cdac4da3cfb9ac6d99281cfd95c9a9f15cc53ad6f80b52ca5e8b74", func := "loop.example/checksinorder/laws.FnExactBestOrder", spec := "fnExactBestOrder", unfollowed := true, recurses := true, named := ["loop.example/checksinorder/impl.yesStates"], apart := false, laid := [("loop.example/checksinorder/impl.yesStates", laid_loop_example_checksinorder_impl_yesStates)] }
def FnExactBestOrderSaid : Prop := fnExactBestOrderRow.holds Tryd.pinned (OpenSpec.ofChange fnExactBestOrderSpec)

/-- ITS FALSE NEIGHBOUR: 'it returns false'. Refute it at one input. -/
def fnExactBestOrderWrong : ChangeSpec := { name := "fnExactBestOrder", vars := ["loop.example/checksinorder/impl.yesStates"], fn := fun _ => fun
  | [d1, d2, g1] => { results := [.lit (.bool false)], args := [d1, d2], vars := [g1] }
  | _ => none }
def FnExactBestOrderWrongFalsely : Prop := fnExactBestOrderRow.holds Tryd.pinned (OpenSpec.ofChange fnExactBestOrderWrong)

/-- 'laws.FnAskedIn': WHATEVER THE INPUT: true; the input reads as it did. -/
def fnAskedInSpec : ChangeSpec := { name := "fnAskedIn", vars := ["loop.example/checksinorder/impl.yesStates"], fn := fun _ => fun
  | [d, g1] => { results := [.lit (.bool true)], args := [d], vars := [g1] }
  | _ => none }
def fnAskedInRow : OpenClaim := { program := "ytaolcmhkmkgmpaadoor", sum := "1d00481894cdac4da3cfb9ac6d99281cfd95c9a9f15cc53ad6f80b52ca5e8b74", func := "loop.example/checksinorder/laws.FnAskedIn", spec := "fnAskedIn", unfollowed := true, recurses := true, named := ["loop.example/checksinorder/impl.yesStates"], apart := false, laid := [("loop.example/checksinorder/impl.yesStates", laid_loop_example_checksinorder_impl_yesStates)] }
def FnAskedInSaid : Prop := fnAskedInRow.holds Tryd.pinned (OpenSpec.ofChange fnAskedInSpec)

/-- ITS FALSE NEIGHBOUR: 'it returns false'. Refute it at one input. -/
def fnAskedInWrong : ChangeSpec := { name := "fnAskedIn", vars := ["loop.example/checksinorder/impl.yesStates"], fn := fun _ => fun
  | [d, g1] => { results := [.lit (.bool false)], args := [d], vars := [g1] }
  | _ => none }
def FnAskedInWrongFalsely : Prop := fnAskedInRow.holds Tryd.pinned (OpenSpec.ofChange fnAskedInWrong)

/-- 'laws.FnCostIn': WHATEVER THE INPUT: true; the input reads as it did. -/
def fnCostInSpec : ChangeSpec := { name := "fnCostIn", vars := ["loop.example/checksinorder/impl.yesStates"], fn := fun _ => fun
  | [d, g1] => { results := [.lit (.bool true)], args := [d], vars := [g1] }
  | _ => none }
def fnCostInRow : OpenClaim := { program := "ytaolcmhkmkgmpaadoor", sum := "1d00481894cdac4da3cfb9ac6d99281cfd95c9a9f15cc53ad6f80b52ca5e8b74", func := "loop.example/checksinorder/laws.FnCostIn", spec := "fnCostIn", unfollowed := true, recurses := true, named := ["loop.example/checksinorder/impl.yesStates"], apart := false, laid := [("loop.example/checksinorder/impl.yesStates", laid_loop_example_checksinorder_impl_yesStates)] }
def FnCostInSaid : Prop := fnCostInRow.holds Tryd.pinned (OpenSpec.ofChange fnCostInSpec)

/-- ITS FALSE NEIGHBOUR: 'it returns false'. Refute it at one input. -/
def fnCostInWrong : ChangeSpec := { name := "fnCostIn", vars := ["loop.example/checksinorder/impl.yesStates"], fn := fun _ => fun
  | [d, g1] => { results := [.lit (.bool false)], args := [d], vars := [g1] }
  | _ => none }
def FnCostInWrongFalsely : Prop := fnCostInRow.holds Tryd.pinned (OpenSpec.ofChange fnCostInWrong)

/-- 'laws.FnAverageIn': WHATEVER THE INPUT: true; the input reads as it did. -/
def fnAverageInSpec : ChangeSpec := { name := "fnAverageIn", vars := ["loop.example/checksinorder/impl.yesStates"], fn := fun _ => fun
  | [d, g1] => { results := [.lit (.bool true)], args := [d], vars := [g1] }
  | _ => none }
def fnAverageInRow : OpenClaim := { program := "ytaolcmhkmkgmpaadoor", sum := "1d00481894cdac4da3cfb9ac6d99281cfd95c9a9f15cc53ad6f80b52ca5e8b74", func := "loop.example/checksinorder/laws.FnAverageIn", spec := "fnAverageIn", unfollowed := true, recurses := true, named := ["loop.example/checksinorder/impl.yesStates"], apart := false, laid := [("loop.example/checksinorder/impl.yesStates", laid_loop_example_checksinorder_impl_yesStates)] }
def FnAverageInSaid : Prop := fnAverageInRow.holds Tryd.pinned (OpenSpec.ofChange fnAverageInSpec)

/-- ITS FALSE NEIGHBOUR: 'it returns false'. Refute it at one input. -/
def fnAverageInWrong : ChangeSpec := { name := "fnAverageIn", vars := ["loop.example/checksinorder/impl.yesStates"], fn := fun _ => fun
  | [d, g1] => { results := [.lit (.bool false)], args := [d], vars := [g1] }
  | _ => none }
def FnAverageInWrongFalsely : Prop := fnAverageInRow.holds Tryd.pinned (OpenSpec.ofChange fnAverageInWrong)

/-- 'laws.FnBestOrder': WHATEVER THE INPUT: true; the input reads as it did. -/
def fnBestOrderSpec : ChangeSpec := { name := "fnBestOrder", vars := ["loop.example/checksinorder/impl.yesStates"], fn := fun _ => fun
  | [d1, d2, g1] => { results := [.lit (.bool true)], args := [d1, d2], vars := [g1] }
  | _ => none }
def fnBestOrderRow : OpenClaim := { program := "ytaolcmhkmkgmpaadoor", sum := "1d00481894cdac4da3cfb9ac6d99281cfd95c9a9f15cc53ad6f80b52ca5e8b74", func := "loop.example/checksinorder/laws.FnBestOrder", spec := "fnBestOrder", unfollowed := true, recurses := true, named := ["loop.example/checksinorder/impl.yesStates"], apart := false, laid := [("loop.example/checksinorder/impl.yesStates", laid_loop_example_checksinorder_impl_yesStates)] }
def FnBestOrderSaid : Prop := fnBestOrderRow.holds Tryd.pinned (OpenSpec.ofChange fnBestOrderSpec)

/-- ITS FALSE NEIGHBOUR: 'it returns false'. Refute it at one input. -/
def fnBestOrderWrong : ChangeSpec := { name := "fnBestOrder", vars := ["loop.example/checksinorder/impl.yesStates"], fn := fun _ => fun
  | [d1, d2, g1] => { results := [.lit (.bool false)], args := [d1, d2], vars := [g1] }
  | _ => none }
def FnBestOrderWrongFalsely : Prop := fnBestOrderRow.holds Tryd.pinned (OpenSpec.ofChange fnBestOrderWrong)

/-- 'laws.FnIdleLast': WHATEVER THE INPUT: true; the input reads as it did. -/
def fnIdleLastSpec : ChangeSpec := { name := "fnIdleLast", vars := ["loop.example/checksinorder/impl.yesStates"], fn := fun _ => fun
  | [d, g1] => { results := [.lit (.bool true)], args := [d], vars := [g1] }
  | _ => none }
def fnIdleLastRow : OpenClaim := { program := "ytaolcmhkmkgmpaadoor", sum := "1d00481894cdac4da3cfb9ac6d99281cfd95c9a9f15cc53ad6f80b52ca5e8b74", func := "loop.example/checksinorder/laws.FnIdleLast", spec := "fnIdleLast", unfollowed := true, recurses := true, named := ["loop.example/checksinorder/impl.yesStates"], apart := false, laid := [("loop.example/checksinorder/impl.yesStates", laid_loop_example_checksinorder_impl_yesStates)] }
def FnIdleLastSaid : Prop := fnIdleLastRow.holds Tryd.pinned (OpenSpec.ofChange fnIdleLastSpec)

/-- ITS FALSE NEIGHBOUR: 'it returns false'. Refute it at one input. -/
def fnIdleLastWrong : ChangeSpec := { name := "fnIdleLast", vars := ["loop.example/checksinorder/impl.yesStates"], fn := fun _ => fun
  | [d, g1] => { results := [.lit (.bool false)], args := [d], vars := [g1] }
  | _ => none }
def FnIdleLastWrongFalsely : Prop := fnIdleLastRow.holds Tryd.pinned (OpenSpec.ofChange fnIdleLastWrong)

/- THE SECOND FORM. 'bulk': how many values and letters a reading holds, each counted each time it is reached (what is shared counts as often as it is met; a slice's spare places count too). A statement '..UptoSaid' is the law's where the arguments, and the package variables that the reading takes, are together of bulk at most 1048576: NARROWER than '..Said'. Prove '..Said' where nothing that the law and all that it calls make is longer than what came in: it says more and counts as full. Else prove '..UptoSaid'. A law counts once. -/
mutual
def uptoBulk {H : Type} : DataW H → Nat
  | .lit (.string bytes) => bytes.length + 1
  | .lit _ => 1
  | .nil => 1
  | .ptr d => uptoBulk d + 1
  | .slice elems spare => uptoBulkAll elems + uptoBulkAll spare + 1
  | .agg parts => uptoBulkAll parts + 1
  | .iface _ d => uptoBulk d + 1
  | .map entries => uptoBulkEntries entries + 1
  | .held _ => 1
def uptoBulkAll {H : Type} : List (DataW H) → Nat
  | [] => 0
  | d :: r => uptoBulk d + uptoBulkAll r
def uptoBulkEntries {H : Type} : List (Lit × DataW H) → Nat
  | [] => 0
  | x :: r => uptoBulkEntry x + uptoBulkEntries r
def uptoBulkEntry {H : Type} : Lit × DataW H → Nat
  | (.string bytes, d) => bytes.length + uptoBulk d + 1
  | (_, d) => uptoBulk d + 1
 end
def uptoSmall : (H : Type) → List (DataW H) → Bool := fun _ ds => decide (uptoBulkAll ds ≤ 1048576)
def OpenSpec.upto (s : _root_.Go.ChangeSpec) : _root_.Go.OpenSpec := { _root_.Go.OpenSpec.ofChange s with cond := some uptoSmall }

/-- 'laws.FnExactAskedIn', WHERE WHAT IT READS IS OF BULK AT MOST 1048576: true; the input reads as it did. -/
def fnExactAskedInUptoRow : OpenClaim := { program := "ytaolcmhkmkgmpaadoor", sum := "1d00481894cdac4da3cfb9ac6d99281cfd95c9a9f15cc53ad6f80b52ca5e8b74", func := "loop.example/checksinorder/laws.FnExactAskedIn", spec := "fnExactAskedIn", unfollowed := true, recurses := true, named := ["loop.example/checksinorder/impl.yesStates"], apart := false, laid := [("loop.example/checksinorder/impl.yesStates", laid_loop_example_checksinorder_impl_yesStates)], narrowed := true }
def FnExactAskedInUptoSaid : Prop := fnExactAskedInUptoRow.holds Tryd.pinned (OpenSpec.upto fnExactAskedInSpec)

/-- 'laws.FnExactCostIn', WHERE WHAT IT READS IS OF BULK AT MOST 1048576: true; the input reads as it did. -/
def fnExactCostInUptoRow : OpenClaim := { program := "ytaolcmhkmkgmpaadoor", sum := "1d00481894cdac4da3cfb9ac6d99281cfd95c9a9f15cc53ad6f80b52ca5e8b74", func := "loop.example/checksinorder/laws.FnExactCostIn", spec := "fnExactCostIn", unfollowed := true, recurses := true, named := ["loop.example/checksinorder/impl.yesStates"], apart := false, laid := [("loop.example/checksinorder/impl.yesStates", laid_loop_example_checksinorder_impl_yesStates)], narrowed := true }
def FnExactCostInUptoSaid : Prop := fnExactCostInUptoRow.holds Tryd.pinned (OpenSpec.upto fnExactCostInSpec)

/-- 'laws.FnExactAverageIn', WHERE WHAT IT READS IS OF BULK AT MOST 1048576: true; the input reads as it did. -/
def fnExactAverageInUptoRow : OpenClaim := { program := "ytaolcmhkmkgmpaadoor", sum := "1d00481894cdac4da3cfb9ac6d99281cfd95c9a9f15cc53ad6f80b52ca5e8b74", func := "loop.example/checksinorder/laws.FnExactAverageIn", spec := "fnExactAverageIn", unfollowed := true, recurses := true, named := ["loop.example/checksinorder/impl.yesStates"], apart := false, laid := [("loop.example/checksinorder/impl.yesStates", laid_loop_example_checksinorder_impl_yesStates)], narrowed := true }
def FnExactAverageInUptoSaid : Prop := fnExactAverageInUptoRow.holds Tryd.pinned (OpenSpec.upto fnExactAverageInSpec)

/-- 'laws.FnExactBestOrder', WHERE WHAT IT READS IS OF BULK AT MOST 1048576: true; the input reads as it did. -/
def fnExactBestOrderUptoRow : OpenClaim := { program := "ytaolcmhkmkgmpaadoor", sum := "1d00481894cdac4da3cfb9ac6d99281cfd95c9a9f15cc53ad6f80b52ca5e8b74", func := "loop.example/checksinorder/laws.FnExactBestOrder", spec := "fnExactBestOrder", unfollowed := true, recurses := true, named := ["loop.example/checksinorder/impl.yesStates"], apart := false, laid := [("loop.example/checksinorder/impl.yesStates", laid_loop_example_checksinorder_impl_yesStates)], narrowed := true }
def FnExactBestOrderUptoSaid : Prop := fnExactBestOrderUptoRow.holds Tryd.pinned (OpenSpec.upto fnExactBestOrderSpec)

/-- 'laws.FnAskedIn', WHERE WHAT IT READS IS OF BULK AT MOST 1048576: true; the input reads as it did. -/
def fnAskedInUptoRow : OpenClaim := { program := "ytaolcmhkmkgmpaadoor", sum := "1d00481894cdac4da3cfb9ac6d99281cfd95c9a9f15cc53ad6f80b52ca5e8b74", func := "loop.example/checksinorder/laws.FnAskedIn", spec := "fnAskedIn", unfollowed := true, recurses := true, named := ["loop.example/checksinorder/impl.yesStates"], apart := false, laid := [("loop.example/checksinorder/impl.yesStates", laid_loop_example_checksinorder_impl_yesStates)], narrowed := true }
def FnAskedInUptoSaid : Prop := fnAskedInUptoRow.holds Tryd.pinned (OpenSpec.upto fnAskedInSpec)

/-- 'laws.FnCostIn', WHERE WHAT IT READS IS OF BULK AT MOST 1048576: true; the input reads as it did. -/
def fnCostInUptoRow : OpenClaim := { program := "ytaolcmhkmkgmpaadoor", sum := "1d00481894cdac4da3cfb9ac6d99281cfd95c9a9f15cc53ad6f80b52ca5e8b74", func := "loop.example/checksinorder/laws.FnCostIn", spec := "fnCostIn", unfollowed := true, recurses := true, named := ["loop.example/checksinorder/impl.yesStates"], apart := false, laid := [("loop.example/checksinorder/impl.yesStates", laid_loop_example_checksinorder_impl_yesStates)], narrowed := true }
def FnCostInUptoSaid : Prop := fnCostInUptoRow.holds Tryd.pinned (OpenSpec.upto fnCostInSpec)

/-- 'laws.FnAverageIn', WHERE WHAT IT READS IS OF BULK AT MOST 1048576: true; the input reads as it did. -/
def fnAverageInUptoRow : OpenClaim := { program := "ytaolcmhkmkgmpaadoor", sum := "1d00481894cdac4da3cfb9ac6d99281cfd95c9a9f15cc53ad6f80b52ca5e8b74", func := "loop.example/checksinorder/laws.FnAverageIn", spec := "fnAverageIn", unfollowed := true, recurses := true, named := ["loop.example/checksinorder/impl.yesStates"], apart := false, laid := [("loop.example/checksinorder/impl.yesStates", laid_loop_example_checksinorder_impl_yesStates)], narrowed := true }
def FnAverageInUptoSaid : Prop := fnAverageInUptoRow.holds Tryd.pinned (OpenSpec.upto fnAverageInSpec)

/-- 'laws.FnBestOrder', WHERE WHAT IT READS IS OF BULK AT MOST 1048576: true; the input reads as it did. -/
def fnBestOrderUptoRow : OpenClaim := { program := "ytaolcmhkmkgmpaadoor", sum := "1d00481894cdac4da3cfb9ac6d99281cfd95c9a9f15cc53ad6f80b52ca5e8b74", func := "loop.example/checksinorder/laws.FnBestOrder", spec := "fnBestOrder", unfollowed := true, recurses := true, named := ["loop.example/checksinorder/impl.yesStates"], apart := false, laid := [("loop.example/checksinorder/impl.yesStates", laid_loop_example_checksinorder_impl_yesStates)], narrowed := true }
def FnBestOrderUptoSaid : Prop := fnBestOrderUptoRow.holds Tryd.pinned (OpenSpec.upto fnBestOrderSpec)

/-- 'laws.FnIdleLast', WHERE WHAT IT READS IS OF BULK AT MOST 1048576: true; the input reads as it did. -/
def fnIdleLastUptoRow : OpenClaim := { program := "ytaolcmhkmkgmpaadoor", sum := "1d00481894cdac4da3cfb9ac6d99281cfd95c9a9f15cc53ad6f80b52ca5e8b74", func := "loop.example/checksinorder/laws.FnIdleLast", spec := "fnIdleLast", unfollowed := true, recurses := true, named := ["loop.example/checksinorder/impl.yesStates"], apart := false, laid := [("loop.example/checksinorder/impl.yesStates", laid_loop_example_checksinorder_impl_yesStates)], narrowed := true }
def FnIdleLastUptoSaid : Prop := fnIdleLastUptoRow.holds Tryd.pinned (OpenSpec.upto fnIdleLastSpec)

end Rows
end Go.Proofs.YtaolcmhkmkgmpaaDoor
