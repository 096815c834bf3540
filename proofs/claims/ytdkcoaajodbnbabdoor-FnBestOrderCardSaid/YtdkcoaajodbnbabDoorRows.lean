/-
  NARROWER THAN 'FOR EVERY INPUT', by the rows' own cells (each row's printed sentence says how): FnTrueWeight: laid · FnExactTrueWeight: laid · FnAskedIn: laid · FnBestOrder: laid · FnExactBestOrder: laid · FnRatioOrder: laid · FnRowChance: laid.
  DERIVED. THE GIVEN ROWS OF THIS SEAT. 7 by the template 'for every input the law returns true; each argument reads behind the call as it read before'; 0 by the template 'total and deterministic' (their statements: YtdkcoaajodbnbabDoorTotals.lean).
  GIVEN WITH THE SEED: the statements are not yours to turn. If you find one false, say at which input.
  Laid BY PROGRAM, IN A SANDBOX (cutbox-rows.mjs): the forced cells as the released guide's own fill.sh prints them over the translation 8ddb7f89e8ebfbaa… (all of the seat's roots in one cut). By AI agents, Wed Nov 11 2026. No macro, syntax, notation, axiom, sorry.
-/
import Derived.Test.YtdkcoaajodbnbabDoorChecked
import GoSem.Claim
import GoSem.ClaimJoined
import GoSem.ClaimMapViews
import Derived.JoinedTies
import Derived.KernelRfl
namespace Go.Proofs.YtdkcoaajodbnbabDoor
/- THE CELL 'sum', in the pinned program and in every row, IS THE sha256 OF THE DUMP (.gsa) THAT YtdkcoaajodbnbabDoorProg.lean LOADS. Nothing in Lean hashes anything: it is a label: what it is worth is what the hold of that sum in a sandbox is worth. -/
noncomputable def Tryd.pinned : Pinned := { name := "ytdkcoaajodbnbabdoor", sum := "8ddb7f89e8ebfbaaf11a51f2a8d9e73579e649591f53620bf2cabd00ff2dc65f", checked := Tryd.checked }
namespace Rows
def none {H : Type} : Left H := { results := [], args := [] }

/- WHAT THE LISTED PACKAGE-LEVEL VARIABLES READ AS WHEN THE CALL BEGINS. Each datum BY PROGRAM (the guide's laid-datum.mjs) off the statement by which the dump's own 'gosem.cut.vars' lays the variable. In a bare row this is a premise. The card (YtdkcoaajodbnbabDoorCards.lean) ties it to the program's text. -/
def laid_loop_example_checksinorder_impl_yesStates {H : Type} : DataW H := .agg [.lit (.int .u32 2863311530), .lit (.int .u32 3435973836), .lit (.int .u32 4042322160), .lit (.int .u32 4278255360), .lit (.int .u32 4294901760)]

/-- 'laws.FnTrueWeight': WHATEVER THE INPUT: true; the input reads as it did. -/
def fnTrueWeightSpec : ChangeSpec := { name := "fnTrueWeight", vars := ["loop.example/checksinorder/impl.yesStates"], fn := fun _ => fun
  | [d, g1] => { results := [.lit (.bool true)], args := [d], vars := [g1] }
  | _ => none }
def fnTrueWeightRow : OpenClaim := { program := "ytdkcoaajodbnbabdoor", sum := "8ddb7f89e8ebfbaaf11a51f2a8d9e73579e649591f53620bf2cabd00ff2dc65f", func := "loop.example/checksinorder/laws.FnTrueWeight", spec := "fnTrueWeight", unfollowed := true, recurses := true, named := ["loop.example/checksinorder/impl.yesStates"], apart := false, laid := [("loop.example/checksinorder/impl.yesStates", laid_loop_example_checksinorder_impl_yesStates)] }
def FnTrueWeightSaid : Prop := fnTrueWeightRow.holds Tryd.pinned (OpenSpec.ofChange fnTrueWeightSpec)

/-- ITS FALSE NEIGHBOUR: 'it returns false'. Refute it at one input. -/
def fnTrueWeightWrong : ChangeSpec := { name := "fnTrueWeight", vars := ["loop.example/checksinorder/impl.yesStates"], fn := fun _ => fun
  | [d, g1] => { results := [.lit (.bool false)], args := [d], vars := [g1] }
  | _ => none }
def FnTrueWeightWrongFalsely : Prop := fnTrueWeightRow.holds Tryd.pinned (OpenSpec.ofChange fnTrueWeightWrong)

/-- 'laws.FnExactTrueWeight': WHATEVER THE INPUT: true; the input reads as it did. -/
def fnExactTrueWeightSpec : ChangeSpec := { name := "fnExactTrueWeight", vars := ["loop.example/checksinorder/impl.yesStates"], fn := fun _ => fun
  | [d1, d2, g1] => { results := [.lit (.bool true)], args := [d1, d2], vars := [g1] }
  | _ => none }
def fnExactTrueWeightRow : OpenClaim := { program := "ytdkcoaajodbnbabdoor", sum := "8ddb7f89e8ebfbaaf11a51f2a8d9e73579e649591f53620bf2cabd00ff2dc65f", func := "loop.example/checksinorder/laws.FnExactTrueWeight", spec := "fnExactTrueWeight", unfollowed := true, recurses := true, named := ["loop.example/checksinorder/impl.yesStates"], apart := false, laid := [("loop.example/checksinorder/impl.yesStates", laid_loop_example_checksinorder_impl_yesStates)] }
def FnExactTrueWeightSaid : Prop := fnExactTrueWeightRow.holds Tryd.pinned (OpenSpec.ofChange fnExactTrueWeightSpec)

/-- ITS FALSE NEIGHBOUR: 'it returns false'. Refute it at one input. -/
def fnExactTrueWeightWrong : ChangeSpec := { name := "fnExactTrueWeight", vars := ["loop.example/checksinorder/impl.yesStates"], fn := fun _ => fun
  | [d1, d2, g1] => { results := [.lit (.bool false)], args := [d1, d2], vars := [g1] }
  | _ => none }
def FnExactTrueWeightWrongFalsely : Prop := fnExactTrueWeightRow.holds Tryd.pinned (OpenSpec.ofChange fnExactTrueWeightWrong)

/-- 'laws.FnAskedIn': WHATEVER THE INPUT: true; the input reads as it did. -/
def fnAskedInSpec : ChangeSpec := { name := "fnAskedIn", vars := ["loop.example/checksinorder/impl.yesStates"], fn := fun _ => fun
  | [d, g1] => { results := [.lit (.bool true)], args := [d], vars := [g1] }
  | _ => none }
def fnAskedInRow : OpenClaim := { program := "ytdkcoaajodbnbabdoor", sum := "8ddb7f89e8ebfbaaf11a51f2a8d9e73579e649591f53620bf2cabd00ff2dc65f", func := "loop.example/checksinorder/laws.FnAskedIn", spec := "fnAskedIn", unfollowed := true, recurses := true, named := ["loop.example/checksinorder/impl.yesStates"], apart := false, laid := [("loop.example/checksinorder/impl.yesStates", laid_loop_example_checksinorder_impl_yesStates)] }
def FnAskedInSaid : Prop := fnAskedInRow.holds Tryd.pinned (OpenSpec.ofChange fnAskedInSpec)

/-- ITS FALSE NEIGHBOUR: 'it returns false'. Refute it at one input. -/
def fnAskedInWrong : ChangeSpec := { name := "fnAskedIn", vars := ["loop.example/checksinorder/impl.yesStates"], fn := fun _ => fun
  | [d, g1] => { results := [.lit (.bool false)], args := [d], vars := [g1] }
  | _ => none }
def FnAskedInWrongFalsely : Prop := fnAskedInRow.holds Tryd.pinned (OpenSpec.ofChange fnAskedInWrong)

/-- 'laws.FnBestOrder': WHATEVER THE INPUT: true; the input reads as it did. -/
def fnBestOrderSpec : ChangeSpec := { name := "fnBestOrder", vars := ["loop.example/checksinorder/impl.yesStates"], fn := fun _ => fun
  | [d1, d2, g1] => { results := [.lit (.bool true)], args := [d1, d2], vars := [g1] }
  | _ => none }
def fnBestOrderRow : OpenClaim := { program := "ytdkcoaajodbnbabdoor", sum := "8ddb7f89e8ebfbaaf11a51f2a8d9e73579e649591f53620bf2cabd00ff2dc65f", func := "loop.example/checksinorder/laws.FnBestOrder", spec := "fnBestOrder", unfollowed := true, recurses := true, named := ["loop.example/checksinorder/impl.yesStates"], apart := false, laid := [("loop.example/checksinorder/impl.yesStates", laid_loop_example_checksinorder_impl_yesStates)] }
def FnBestOrderSaid : Prop := fnBestOrderRow.holds Tryd.pinned (OpenSpec.ofChange fnBestOrderSpec)

/-- ITS FALSE NEIGHBOUR: 'it returns false'. Refute it at one input. -/
def fnBestOrderWrong : ChangeSpec := { name := "fnBestOrder", vars := ["loop.example/checksinorder/impl.yesStates"], fn := fun _ => fun
  | [d1, d2, g1] => { results := [.lit (.bool false)], args := [d1, d2], vars := [g1] }
  | _ => none }
def FnBestOrderWrongFalsely : Prop := fnBestOrderRow.holds Tryd.pinned (OpenSpec.ofChange fnBestOrderWrong)

/-- 'laws.FnExactBestOrder': WHATEVER THE INPUT: true; the input reads as it did. -/
def fnExactBestOrderSpec : ChangeSpec := { name := "fnExactBestOrder", vars := ["loop.example/checksinorder/impl.yesStates"], fn := fun _ => fun
  | [d1, d2, g1] => { results := [.lit (.bool true)], args := [d1, d2], vars := [g1] }
  | _ => none }
def fnExactBestOrderRow : OpenClaim := { program := "ytdkcoaajodbnbabdoor", sum := "8ddb7f89e8ebfbaaf11a51f2a8d9e73579e649591f53620bf2cabd00ff2dc65f", func := "loop.example/checksinorder/laws.FnExactBestOrder", spec := "fnExactBestOrder", unfollowed := true, recurses := true, named := ["loop.example/checksinorder/impl.yesStates"], apart := false, laid := [("loop.example/checksinorder/impl.yesStates", laid_loop_example_checksinorder_impl_yesStates)] }
def FnExactBestOrderSaid : Prop := fnExactBestOrderRow.holds Tryd.pinned (OpenSpec.ofChange fnExactBestOrderSpec)

/-- ITS FALSE NEIGHBOUR: 'it returns false'. Refute it at one input. -/
def fnExactBestOrderWrong : ChangeSpec := { name := "fnExactBestOrder", vars := ["loop.example/checksinorder/impl.yesStates"], fn := fun _ => fun
  | [d1, d2, g1] => { results := [.lit (.bool false)], args := [d1, d2], vars := [g1] }
  | _ => none }
def FnExactBestOrderWrongFalsely : Prop := fnExactBestOrderRow.holds Tryd.pinned (OpenSpec.ofChange fnExactBestOrderWrong)

/-- 'laws.FnRatioOrder': WHATEVER THE INPUT: true; the input reads as it did. -/
def fnRatioOrderSpec : ChangeSpec := { name := "fnRatioOrder", vars := ["loop.example/checksinorder/impl.yesStates"], fn := fun _ => fun
  | [d, g1] => { results := [.lit (.bool true)], args := [d], vars := [g1] }
  | _ => none }
def fnRatioOrderRow : OpenClaim := { program := "ytdkcoaajodbnbabdoor", sum := "8ddb7f89e8ebfbaaf11a51f2a8d9e73579e649591f53620bf2cabd00ff2dc65f", func := "loop.example/checksinorder/laws.FnRatioOrder", spec := "fnRatioOrder", inPlace := ["slices.overlaps[int]"], unfollowed := true, recurses := true, named := ["loop.example/checksinorder/impl.yesStates"], apart := false, laid := [("loop.example/checksinorder/impl.yesStates", laid_loop_example_checksinorder_impl_yesStates)] }
def FnRatioOrderSaid : Prop := fnRatioOrderRow.holds Tryd.pinned (OpenSpec.ofChange fnRatioOrderSpec)

/-- ITS FALSE NEIGHBOUR: 'it returns false'. Refute it at one input. -/
def fnRatioOrderWrong : ChangeSpec := { name := "fnRatioOrder", vars := ["loop.example/checksinorder/impl.yesStates"], fn := fun _ => fun
  | [d, g1] => { results := [.lit (.bool false)], args := [d], vars := [g1] }
  | _ => none }
def FnRatioOrderWrongFalsely : Prop := fnRatioOrderRow.holds Tryd.pinned (OpenSpec.ofChange fnRatioOrderWrong)

/-- 'laws.FnRowChance': WHATEVER THE INPUT: true; the input reads as it did. -/
def fnRowChanceSpec : ChangeSpec := { name := "fnRowChance", vars := ["loop.example/checksinorder/impl.yesStates"], fn := fun _ => fun
  | [d, g1] => { results := [.lit (.bool true)], args := [d], vars := [g1] }
  | _ => none }
def fnRowChanceRow : OpenClaim := { program := "ytdkcoaajodbnbabdoor", sum := "8ddb7f89e8ebfbaaf11a51f2a8d9e73579e649591f53620bf2cabd00ff2dc65f", func := "loop.example/checksinorder/laws.FnRowChance", spec := "fnRowChance", unfollowed := true, recurses := true, named := ["loop.example/checksinorder/impl.yesStates"], apart := false, laid := [("loop.example/checksinorder/impl.yesStates", laid_loop_example_checksinorder_impl_yesStates)] }
def FnRowChanceSaid : Prop := fnRowChanceRow.holds Tryd.pinned (OpenSpec.ofChange fnRowChanceSpec)

/-- ITS FALSE NEIGHBOUR: 'it returns false'. Refute it at one input. -/
def fnRowChanceWrong : ChangeSpec := { name := "fnRowChance", vars := ["loop.example/checksinorder/impl.yesStates"], fn := fun _ => fun
  | [d, g1] => { results := [.lit (.bool false)], args := [d], vars := [g1] }
  | _ => none }
def FnRowChanceWrongFalsely : Prop := fnRowChanceRow.holds Tryd.pinned (OpenSpec.ofChange fnRowChanceWrong)

/- THE SECOND FORM. 'bulk': how many values and letters a reading holds, each counted each time it is reached (what is shared counts as often as it is met; a slice's spare places count too). A statement '..UptoSaid' is the law's where the arguments, and the package variables that the reading takes, are together of bulk at most 1048576: NARROWER than '..Said'. Prove '..Said' where nothing that the law and all that it calls make is longer than what came in: it says more and counts as full. Else prove '..UptoSaid'. A law counts once. -/
mutual
def uptoBulk {H : Type} : DataW H → Nat
  | .lit (.string bytes) => bytes.length + 1
  | .lit _ => 1
  | .nil => 1
  | .ptr d => uptoBulk d + 1
  | .slice elems spare => uptoBulkAll elems + uptoBulkAll spare + 1
  | .agg parts => uptoBulkAll parts + 1
  | .iface _ d => uptoBulk d + 1
  | .map entries => uptoBulkEntries entries + 1
  | .held _ => 1
def uptoBulkAll {H : Type} : List (DataW H) → Nat
  | [] => 0
  | d :: r => uptoBulk d + uptoBulkAll r
def uptoBulkEntries {H : Type} : List (Lit × DataW H) → Nat
  | [] => 0
  | x :: r => uptoBulkEntry x + uptoBulkEntries r
def uptoBulkEntry {H : Type} : Lit × DataW H → Nat
  | (.string bytes, d) => bytes.length + uptoBulk d + 1
  | (_, d) => uptoBulk d + 1
 end
def uptoSmall : (H : Type) → List (DataW H) → Bool := fun _ ds => decide (uptoBulkAll ds ≤ 1048576)
def OpenSpec.upto (s : _root_.Go.ChangeSpec) : _root_.Go.OpenSpec := { _root_.Go.OpenSpec.ofChange s with cond := some uptoSmall }

/-- 'laws.FnTrueWeight', WHERE WHAT IT READS IS OF BULK AT MOST 1048576: true; the input reads as it did. -/
def fnTrueWeightUptoRow : OpenClaim := { program := "ytdkcoaajodbnbabdoor", sum := "8ddb7f89e8ebfbaaf11a51f2a8d9e73579e649591f53620bf2cabd00ff2dc65f", func := "loop.example/checksinorder/laws.FnTrueWeight", spec := "fnTrueWeight", unfollowed := true, recurses := true, named := ["loop.example/checksinorder/impl.yesStates"], apart := false, laid := [("loop.example/checksinorder/impl.yesStates", laid_loop_example_checksinorder_impl_yesStates)], narrowed := true }
def FnTrueWeightUptoSaid : Prop := fnTrueWeightUptoRow.holds Tryd.pinned (OpenSpec.upto fnTrueWeightSpec)

/-- 'laws.FnExactTrueWeight', WHERE WHAT IT READS IS OF BULK AT MOST 1048576: true; the input reads as it did. -/
def fnExactTrueWeightUptoRow : OpenClaim := { program := "ytdkcoaajodbnbabdoor", sum := "8ddb7f89e8ebfbaaf11a51f2a8d9e73579e649591f53620bf2cabd00ff2dc65f", func := "loop.example/checksinorder/laws.FnExactTrueWeight", spec := "fnExactTrueWeight", unfollowed := true, recurses := true, named := ["loop.example/checksinorder/impl.yesStates"], apart := false, laid := [("loop.example/checksinorder/impl.yesStates", laid_loop_example_checksinorder_impl_yesStates)], narrowed := true }
def FnExactTrueWeightUptoSaid : Prop := fnExactTrueWeightUptoRow.holds Tryd.pinned (OpenSpec.upto fnExactTrueWeightSpec)

/-- 'laws.FnAskedIn', WHERE WHAT IT READS IS OF BULK AT MOST 1048576: true; the input reads as it did. -/
def fnAskedInUptoRow : OpenClaim := { program := "ytdkcoaajodbnbabdoor", sum := "8ddb7f89e8ebfbaaf11a51f2a8d9e73579e649591f53620bf2cabd00ff2dc65f", func := "loop.example/checksinorder/laws.FnAskedIn", spec := "fnAskedIn", unfollowed := true, recurses := true, named := ["loop.example/checksinorder/impl.yesStates"], apart := false, laid := [("loop.example/checksinorder/impl.yesStates", laid_loop_example_checksinorder_impl_yesStates)], narrowed := true }
def FnAskedInUptoSaid : Prop := fnAskedInUptoRow.holds Tryd.pinned (OpenSpec.upto fnAskedInSpec)

/-- 'laws.FnBestOrder', WHERE WHAT IT READS IS OF BULK AT MOST 1048576: true; the input reads as it did. -/
def fnBestOrderUptoRow : OpenClaim := { program := "ytdkcoaajodbnbabdoor", sum := "8ddb7f89e8ebfbaaf11a51f2a8d9e73579e649591f53620bf2cabd00ff2dc65f", func := "loop.example/checksinorder/laws.FnBestOrder", spec := "fnBestOrder", unfollowed := true, recurses := true, named := ["loop.example/checksinorder/impl.yesStates"], apart := false, laid := [("loop.example/checksinorder/impl.yesStates", laid_loop_example_checksinorder_impl_yesStates)], narrowed := true }
def FnBestOrderUptoSaid : Prop := fnBestOrderUptoRow.holds Tryd.pinned (OpenSpec.upto fnBestOrderSpec)

/-- 'laws.FnExactBestOrder', WHERE WHAT IT READS IS OF BULK AT MOST 1048576: true; the input reads as it did. -/
def fnExactBestOrderUptoRow : OpenClaim := { program := "ytdkcoaajodbnbabdoor", sum := "8ddb7f89e8ebfbaaf11a51f2a8d9e73579e649591f53620bf2cabd00ff2dc65f", func := "loop.example/checksinorder/laws.FnExactBestOrder", spec := "fnExactBestOrder", unfollowed := true, recurses := true, named := ["loop.example/checksinorder/impl.yesStates"], apart := false, laid := [("loop.example/checksinorder/impl.yesStates", laid_loop_example_checksinorder_impl_yesStates)], narrowed := true }
def FnExactBestOrderUptoSaid : Prop := fnExactBestOrderUptoRow.holds Tryd.pinned (OpenSpec.upto fnExactBestOrderSpec)

/-- 'laws.FnRatioOrder', WHERE WHAT IT READS IS OF BULK AT MOST 1048576: true; the input reads as it did. -/
def fnRatioOrderUptoRow : OpenClaim := { program := "ytdkcoaajodbnbabdoor", sum := "8ddb7f89e8ebfbaaf11a51f2a8d9e73579e649591f53620bf2cabd00ff2dc65f", func := "loop.example/checksinorder/laws.FnRatioOrder", spec := "fnRatioOrder", inPlace := ["slices.overlaps[int]"], unfollowed := true, recurses := true, named := ["loop.example/checksinorder/impl.yesStates"], apart := false, laid := [("loop.example/checksinorder/impl.yesStates", laid_loop_example_checksinorder_impl_yesStates)], narrowed := true }
def FnRatioOrderUptoSaid : Prop := fnRatioOrderUptoRow.holds Tryd.pinned (OpenSpec.upto fnRatioOrderSpec)

/-- 'laws.FnRowChance', WHERE WHAT IT READS IS OF BULK AT MOST 1048576: true; the input reads as it did. -/
def fnRowChanceUptoRow : OpenClaim := { program := "ytdkcoaajodbnbabdoor", sum := "8ddb7f89e8ebfbaaf11a51f2a8d9e73579e649591f53620bf2cabd00ff2dc65f", func := "loop.example/checksinorder/laws.FnRowChance", spec := "fnRowChance", unfollowed := true, recurses := true, named := ["loop.example/checksinorder/impl.yesStates"], apart := false, laid := [("loop.example/checksinorder/impl.yesStates", laid_loop_example_checksinorder_impl_yesStates)], narrowed := true }
def FnRowChanceUptoSaid : Prop := fnRowChanceUptoRow.holds Tryd.pinned (OpenSpec.upto fnRowChanceSpec)

end Rows
end Go.Proofs.YtdkcoaajodbnbabDoor
