/-
  NARROWER THAN 'FOR EVERY INPUT', by the rows' own cells (each row's printed sentence says how): FnForcedBy: laid · FnForcedProof: laid · FnLeastProofs: laid · FnProofOk: laid · FnTurnsIn: laid · FnExactForcedBy: laid · FnExactLeastProofs: laid · FnExactProofOk: laid.
  DERIVED. THE GIVEN ROWS OF THIS SEAT. 8 by the template 'for every input the law returns true; each argument reads behind the call as it read before'; 0 by the template 'total and deterministic' (their statements: YtdkcoaajodbnbaaDoorTotals.lean).
  GIVEN WITH THE SEED: the statements are not yours to turn. If you find one false, say at which input.
  Laid BY PROGRAM, IN A SANDBOX (cutbox-rows.mjs): the forced cells as the released guide's own fill.sh prints them over the translation 55ee20de6939d10f… (all of the seat's roots in one cut). By AI agents, Wed Nov 11 2026. No macro, syntax, notation, axiom, sorry.
-/
import Derived.Test.YtdkcoaajodbnbaaDoorChecked
import GoSem.Claim
import GoSem.ClaimJoined
import GoSem.ClaimMapViews
import Derived.JoinedTies
import Derived.KernelRfl
namespace Go.Proofs.YtdkcoaajodbnbaaDoor
/- THE CELL 'sum', in the pinned program and in every row, IS THE sha256 OF THE DUMP (.gsa) THAT YtdkcoaajodbnbaaDoorProg.lean LOADS. Nothing in Lean hashes anything: it is a label: what it is worth is what the hold of that sum in a sandbox is worth. -/
noncomputable def Tryd.pinned : Pinned := { name := "ytdkcoaajodbnbaadoor", sum := "55ee20de6939d10fd33e0f44ef0dbf362e508315fa4a1380503064818802adb4", checked := Tryd.checked }
namespace Rows
def none {H : Type} : Left H := { results := [], args := [] }

/- WHAT THE LISTED PACKAGE-LEVEL VARIABLES READ AS WHEN THE CALL BEGINS. Each datum BY PROGRAM (the guide's laid-datum.mjs) off the statement by which the dump's own 'gosem.cut.vars' lays the variable. In a bare row this is a premise. The card (YtdkcoaajodbnbaaDoorCards.lean) ties it to the program's text. -/
def laid_loop_example_checksinorder_impl_yesStates {H : Type} : DataW H := .agg [.lit (.int .u32 2863311530), .lit (.int .u32 3435973836), .lit (.int .u32 4042322160), .lit (.int .u32 4278255360), .lit (.int .u32 4294901760)]

/-- 'laws.FnForcedBy': WHATEVER THE INPUT: true; the input reads as it did. -/
def fnForcedBySpec : ChangeSpec := { name := "fnForcedBy", vars := ["loop.example/checksinorder/impl.yesStates"], fn := fun _ => fun
  | [d, g1] => { results := [.lit (.bool true)], args := [d], vars := [g1] }
  | _ => none }
def fnForcedByRow : OpenClaim := { program := "ytdkcoaajodbnbaadoor", sum := "55ee20de6939d10fd33e0f44ef0dbf362e508315fa4a1380503064818802adb4", func := "loop.example/checksinorder/laws.FnForcedBy", spec := "fnForcedBy", unfollowed := true, recurses := true, named := ["loop.example/checksinorder/impl.yesStates"], apart := false, laid := [("loop.example/checksinorder/impl.yesStates", laid_loop_example_checksinorder_impl_yesStates)] }
def FnForcedBySaid : Prop := fnForcedByRow.holds Tryd.pinned (OpenSpec.ofChange fnForcedBySpec)

/-- ITS FALSE NEIGHBOUR: 'it returns false'. Refute it at one input. -/
def fnForcedByWrong : ChangeSpec := { name := "fnForcedBy", vars := ["loop.example/checksinorder/impl.yesStates"], fn := fun _ => fun
  | [d, g1] => { results := [.lit (.bool false)], args := [d], vars := [g1] }
  | _ => none }
def FnForcedByWrongFalsely : Prop := fnForcedByRow.holds Tryd.pinned (OpenSpec.ofChange fnForcedByWrong)

/-- 'laws.FnForcedProof': WHATEVER THE INPUT: true; the input reads as it did. -/
def fnForcedProofSpec : ChangeSpec := { name := "fnForcedProof", vars := ["loop.example/checksinorder/impl.yesStates"], fn := fun _ => fun
  | [d, g1] => { results := [.lit (.bool true)], args := [d], vars := [g1] }
  | _ => none }
def fnForcedProofRow : OpenClaim := { program := "ytdkcoaajodbnbaadoor", sum := "55ee20de6939d10fd33e0f44ef0dbf362e508315fa4a1380503064818802adb4", func := "loop.example/checksinorder/laws.FnForcedProof", spec := "fnForcedProof", unfollowed := true, recurses := true, named := ["loop.example/checksinorder/impl.yesStates"], apart := false, laid := [("loop.example/checksinorder/impl.yesStates", laid_loop_example_checksinorder_impl_yesStates)] }
def FnForcedProofSaid : Prop := fnForcedProofRow.holds Tryd.pinned (OpenSpec.ofChange fnForcedProofSpec)

/-- ITS FALSE NEIGHBOUR: 'it returns false'. Refute it at one input. -/
def fnForcedProofWrong : ChangeSpec := { name := "fnForcedProof", vars := ["loop.example/checksinorder/impl.yesStates"], fn := fun _ => fun
  | [d, g1] => { results := [.lit (.bool false)], args := [d], vars := [g1] }
  | _ => none }
def FnForcedProofWrongFalsely : Prop := fnForcedProofRow.holds Tryd.pinned (OpenSpec.ofChange fnForcedProofWrong)

/-- 'laws.FnLeastProofs': WHATEVER THE INPUT: true; the input reads as it did. -/
def fnLeastProofsSpec : ChangeSpec := { name := "fnLeastProofs", vars := ["loop.example/checksinorder/impl.yesStates"], fn := fun _ => fun
  | [d, g1] => { results := [.lit (.bool true)], args := [d], vars := [g1] }
  | _ => none }
def fnLeastProofsRow : OpenClaim := { program := "ytdkcoaajodbnbaadoor", sum := "55ee20de6939d10fd33e0f44ef0dbf362e508315fa4a1380503064818802adb4", func := "loop.example/checksinorder/laws.FnLeastProofs", spec := "fnLeastProofs", unfollowed := true, recurses := true, named := ["loop.example/checksinorder/impl.yesStates"], apart := false, laid := [("loop.example/checksinorder/impl.yesStates", laid_loop_example_checksinorder_impl_yesStates)] }
def FnLeastProofsSaid : Prop := fnLeastProofsRow.holds Tryd.pinned (OpenSpec.ofChange fnLeastProofsSpec)

/-- ITS FALSE NEIGHBOUR: 'it returns false'. Refute it at one input. -/
def fnLeastProofsWrong : ChangeSpec := { name := "fnLeastProofs", vars := ["loop.example/checksinorder/impl.yesStates"], fn := fun _ => fun
  | [d, g1] => { results := [.lit (.bool false)], args := [d], vars := [g1] }
  | _ => none }
def FnLeastProofsWrongFalsely : Prop := fnLeastProofsRow.holds Tryd.pinned (OpenSpec.ofChange fnLeastProofsWrong)

/-- 'laws.FnProofOk': WHATEVER THE INPUT: true; the input reads as it did. -/
def fnProofOkSpec : ChangeSpec := { name := "fnProofOk", vars := ["loop.example/checksinorder/impl.yesStates"], fn := fun _ => fun
  | [d, g1] => { results := [.lit (.bool true)], args := [d], vars := [g1] }
  | _ => none }
def fnProofOkRow : OpenClaim := { program := "ytdkcoaajodbnbaadoor", sum := "55ee20de6939d10fd33e0f44ef0dbf362e508315fa4a1380503064818802adb4", func := "loop.example/checksinorder/laws.FnProofOk", spec := "fnProofOk", unfollowed := true, recurses := true, named := ["loop.example/checksinorder/impl.yesStates"], apart := false, laid := [("loop.example/checksinorder/impl.yesStates", laid_loop_example_checksinorder_impl_yesStates)] }
def FnProofOkSaid : Prop := fnProofOkRow.holds Tryd.pinned (OpenSpec.ofChange fnProofOkSpec)

/-- ITS FALSE NEIGHBOUR: 'it returns false'. Refute it at one input. -/
def fnProofOkWrong : ChangeSpec := { name := "fnProofOk", vars := ["loop.example/checksinorder/impl.yesStates"], fn := fun _ => fun
  | [d, g1] => { results := [.lit (.bool false)], args := [d], vars := [g1] }
  | _ => none }
def FnProofOkWrongFalsely : Prop := fnProofOkRow.holds Tryd.pinned (OpenSpec.ofChange fnProofOkWrong)

/-- 'laws.FnTurnsIn': WHATEVER THE INPUT: true; the input reads as it did. -/
def fnTurnsInSpec : ChangeSpec := { name := "fnTurnsIn", vars := ["loop.example/checksinorder/impl.yesStates"], fn := fun _ => fun
  | [d, g1] => { results := [.lit (.bool true)], args := [d], vars := [g1] }
  | _ => none }
def fnTurnsInRow : OpenClaim := { program := "ytdkcoaajodbnbaadoor", sum := "55ee20de6939d10fd33e0f44ef0dbf362e508315fa4a1380503064818802adb4", func := "loop.example/checksinorder/laws.FnTurnsIn", spec := "fnTurnsIn", unfollowed := true, recurses := true, named := ["loop.example/checksinorder/impl.yesStates"], apart := false, laid := [("loop.example/checksinorder/impl.yesStates", laid_loop_example_checksinorder_impl_yesStates)] }
def FnTurnsInSaid : Prop := fnTurnsInRow.holds Tryd.pinned (OpenSpec.ofChange fnTurnsInSpec)

/-- ITS FALSE NEIGHBOUR: 'it returns false'. Refute it at one input. -/
def fnTurnsInWrong : ChangeSpec := { name := "fnTurnsIn", vars := ["loop.example/checksinorder/impl.yesStates"], fn := fun _ => fun
  | [d, g1] => { results := [.lit (.bool false)], args := [d], vars := [g1] }
  | _ => none }
def FnTurnsInWrongFalsely : Prop := fnTurnsInRow.holds Tryd.pinned (OpenSpec.ofChange fnTurnsInWrong)

/-- 'laws.FnExactForcedBy': WHATEVER THE INPUT: true; the input reads as it did. -/
def fnExactForcedBySpec : ChangeSpec := { name := "fnExactForcedBy", vars := ["loop.example/checksinorder/impl.yesStates"], fn := fun _ => fun
  | [d1, d2, d3, g1] => { results := [.lit (.bool true)], args := [d1, d2, d3], vars := [g1] }
  | _ => none }
def fnExactForcedByRow : OpenClaim := { program := "ytdkcoaajodbnbaadoor", sum := "55ee20de6939d10fd33e0f44ef0dbf362e508315fa4a1380503064818802adb4", func := "loop.example/checksinorder/laws.FnExactForcedBy", spec := "fnExactForcedBy", unfollowed := true, recurses := true, named := ["loop.example/checksinorder/impl.yesStates"], apart := false, laid := [("loop.example/checksinorder/impl.yesStates", laid_loop_example_checksinorder_impl_yesStates)] }
def FnExactForcedBySaid : Prop := fnExactForcedByRow.holds Tryd.pinned (OpenSpec.ofChange fnExactForcedBySpec)

/-- ITS FALSE NEIGHBOUR: 'it returns false'. Refute it at one input. -/
def fnExactForcedByWrong : ChangeSpec := { name := "fnExactForcedBy", vars := ["loop.example/checksinorder/impl.yesStates"], fn := fun _ => fun
  | [d1, d2, d3, g1] => { results := [.lit (.bool false)], args := [d1, d2, d3], vars := [g1] }
  | _ => none }
def FnExactForcedByWrongFalsely : Prop := fnExactForcedByRow.holds Tryd.pinned (OpenSpec.ofChange fnExactForcedByWrong)

/-- 'laws.FnExactLeastProofs': WHATEVER THE INPUT: true; the input reads as it did. -/
def fnExactLeastProofsSpec : ChangeSpec := { name := "fnExactLeastProofs", vars := ["loop.example/checksinorder/impl.yesStates"], fn := fun _ => fun
  | [d1, d2, d3, g1] => { results := [.lit (.bool true)], args := [d1, d2, d3], vars := [g1] }
  | _ => none }
def fnExactLeastProofsRow : OpenClaim := { program := "ytdkcoaajodbnbaadoor", sum := "55ee20de6939d10fd33e0f44ef0dbf362e508315fa4a1380503064818802adb4", func := "loop.example/checksinorder/laws.FnExactLeastProofs", spec := "fnExactLeastProofs", unfollowed := true, recurses := true, named := ["loop.example/checksinorder/impl.yesStates"], apart := false, laid := [("loop.example/checksinorder/impl.yesStates", laid_loop_example_checksinorder_impl_yesStates)] }
def FnExactLeastProofsSaid : Prop := fnExactLeastProofsRow.holds Tryd.pinned (OpenSpec.ofChange fnExactLeastProofsSpec)

/-- ITS FALSE NEIGHBOUR: 'it returns false'. Refute it at one input. -/
def fnExactLeastProofsWrong : ChangeSpec := { name := "fnExactLeastProofs", vars := ["loop.example/checksinorder/impl.yesStates"], fn := fun _ => fun
  | [d1, d2, d3, g1] => { results := [.lit (.bool false)], args := [d1, d2, d3], vars := [g1] }
  | _ => none }
def FnExactLeastProofsWrongFalsely : Prop := fnExactLeastProofsRow.holds Tryd.pinned (OpenSpec.ofChange fnExactLeastProofsWrong)

/-- 'laws.FnExactProofOk': WHATEVER THE INPUT: true; the input reads as it did. -/
def fnExactProofOkSpec : ChangeSpec := { name := "fnExactProofOk", vars := ["loop.example/checksinorder/impl.yesStates"], fn := fun _ => fun
  | [d1, d2, d3, d4, g1] => { results := [.lit (.bool true)], args := [d1, d2, d3, d4], vars := [g1] }
  | _ => none }
def fnExactProofOkRow : OpenClaim := { program := "ytdkcoaajodbnbaadoor", sum := "55ee20de6939d10fd33e0f44ef0dbf362e508315fa4a1380503064818802adb4", func := "loop.example/checksinorder/laws.FnExactProofOk", spec := "fnExactProofOk", unfollowed := true, recurses := true, named := ["loop.example/checksinorder/impl.yesStates"], apart := false, laid := [("loop.example/checksinorder/impl.yesStates", laid_loop_example_checksinorder_impl_yesStates)] }
def FnExactProofOkSaid : Prop := fnExactProofOkRow.holds Tryd.pinned (OpenSpec.ofChange fnExactProofOkSpec)

/-- ITS FALSE NEIGHBOUR: 'it returns false'. Refute it at one input. -/
def fnExactProofOkWrong : ChangeSpec := { name := "fnExactProofOk", vars := ["loop.example/checksinorder/impl.yesStates"], fn := fun _ => fun
  | [d1, d2, d3, d4, g1] => { results := [.lit (.bool false)], args := [d1, d2, d3, d4], vars := [g1] }
  | _ => none }
def FnExactProofOkWrongFalsely : Prop := fnExactProofOkRow.holds Tryd.pinned (OpenSpec.ofChange fnExactProofOkWrong)

/- THE SECOND FORM. 'bulk': how many values and letters a reading holds, each counted each time it is reached (what is shared counts as often as it is met; a slice's spare places count too). A statement '..UptoSaid' is the law's where the arguments, and the package variables that the reading takes, are together of bulk at most 1048576: NARROWER than '..Said'. Prove '..Said' where nothing that the law and all that it calls make is longer than what came in: it says more and counts as full. Else prove '..UptoSaid'. A law counts once. -/
mutual
def uptoBulk {H : Type} : DataW H → Nat
  | .lit (.string bytes) => bytes.length + 1
  | .lit _ => 1
  | .nil => 1
  | .ptr d => uptoBulk d + 1
  | .slice elems spare => uptoBulkAll elems + uptoBulkAll spare + 1
  | .agg parts => uptoBulkAll parts + 1
  | .iface _ d => uptoBulk d + 1
  | .map entries => uptoBulkEntries entries + 1
  | .held _ => 1
def uptoBulkAll {H : Type} : List (DataW H) → Nat
  | [] => 0
  | d :: r => uptoBulk d + uptoBulkAll r
def uptoBulkEntries {H : Type} : List (Lit × DataW H) → Nat
  | [] => 0
  | x :: r => uptoBulkEntry x + uptoBulkEntries r
def uptoBulkEntry {H : Type} : Lit × DataW H → Nat
  | (.string bytes, d) => bytes.length + uptoBulk d + 1
  | (_, d) => uptoBulk d + 1
 end
def uptoSmall : (H : Type) → List (DataW H) → Bool := fun _ ds => decide (uptoBulkAll ds ≤ 1048576)
def OpenSpec.upto (s : _root_.Go.ChangeSpec) : _root_.Go.OpenSpec := { _root_.Go.OpenSpec.ofChange s with cond := some uptoSmall }

/-- 'laws.FnForcedBy', WHERE WHAT IT READS IS OF BULK AT MOST 1048576: true; the input reads as it did. -/
def fnForcedByUptoRow : OpenClaim := { program := "ytdkcoaajodbnbaadoor", sum := "55ee20de6939d10fd33e0f44ef0dbf362e508315fa4a1380503064818802adb4", func := "loop.example/checksinorder/laws.FnForcedBy", spec := "fnForcedBy", unfollowed := true, recurses := true, named := ["loop.example/checksinorder/impl.yesStates"], apart := false, laid := [("loop.example/checksinorder/impl.yesStates", laid_loop_example_checksinorder_impl_yesStates)], narrowed := true }
def FnForcedByUptoSaid : Prop := fnForcedByUptoRow.holds Tryd.pinned (OpenSpec.upto fnForcedBySpec)

/-- 'laws.FnForcedProof', WHERE WHAT IT READS IS OF BULK AT MOST 1048576: true; the input reads as it did. -/
def fnForcedProofUptoRow : OpenClaim := { program := "ytdkcoaajodbnbaadoor", sum := "55ee20de6939d10fd33e0f44ef0dbf362e508315fa4a1380503064818802adb4", func := "loop.example/checksinorder/laws.FnForcedProof", spec := "fnForcedProof", unfollowed := true, recurses := true, named := ["loop.example/checksinorder/impl.yesStates"], apart := false, laid := [("loop.example/checksinorder/impl.yesStates", laid_loop_example_checksinorder_impl_yesStates)], narrowed := true }
def FnForcedProofUptoSaid : Prop := fnForcedProofUptoRow.holds Tryd.pinned (OpenSpec.upto fnForcedProofSpec)

/-- 'laws.FnLeastProofs', WHERE WHAT IT READS IS OF BULK AT MOST 1048576: true; the input reads as it did. -/
def fnLeastProofsUptoRow : OpenClaim := { program := "ytdkcoaajodbnbaadoor", sum := "55ee20de6939d10fd33e0f44ef0dbf362e508315fa4a1380503064818802adb4", func := "loop.example/checksinorder/laws.FnLeastProofs", spec := "fnLeastProofs", unfollowed := true, recurses := true, named := ["loop.example/checksinorder/impl.yesStates"], apart := false, laid := [("loop.example/checksinorder/impl.yesStates", laid_loop_example_checksinorder_impl_yesStates)], narrowed := true }
def FnLeastProofsUptoSaid : Prop := fnLeastProofsUptoRow.holds Tryd.pinned (OpenSpec.upto fnLeastProofsSpec)

/-- 'laws.FnProofOk', WHERE WHAT IT READS IS OF BULK AT MOST 1048576: true; the input reads as it did. -/
def fnProofOkUptoRow : OpenClaim := { program := "ytdkcoaajodbnbaadoor", sum := "55ee20de6939d10fd33e0f44ef0dbf362e508315fa4a1380503064818802adb4", func := "loop.example/checksinorder/laws.FnProofOk", spec := "fnProofOk", unfollowed := true, recurses := true, named := ["loop.example/checksinorder/impl.yesStates"], apart := false, laid := [("loop.example/checksinorder/impl.yesStates", laid_loop_example_checksinorder_impl_yesStates)], narrowed := true }
def FnProofOkUptoSaid : Prop := fnProofOkUptoRow.holds Tryd.pinned (OpenSpec.upto fnProofOkSpec)

/-- 'laws.FnTurnsIn', WHERE WHAT IT READS IS OF BULK AT MOST 1048576: true; the input reads as it did. -/
def fnTurnsInUptoRow : OpenClaim := { program := "ytdkcoaajodbnbaadoor", sum := "55ee20de6939d10fd33e0f44ef0dbf362e508315fa4a1380503064818802adb4", func := "loop.example/checksinorder/laws.FnTurnsIn", spec := "fnTurnsIn", unfollowed := true, recurses := true, named := ["loop.example/checksinorder/impl.yesStates"], apart := false, laid := [("loop.example/checksinorder/impl.yesStates", laid_loop_example_checksinorder_impl_yesStates)], narrowed := true }
def FnTurnsInUptoSaid : Prop := fnTurnsInUptoRow.holds Tryd.pinned (OpenSpec.upto fnTurnsInSpec)

/-- 'laws.FnExactForcedBy', WHERE WHAT IT READS IS OF BULK AT MOST 1048576: true; the input reads as it did. -/
def fnExactForcedByUptoRow : OpenClaim := { program := "ytdkcoaajodbnbaadoor", sum := "55ee20de6939d10fd33e0f44ef0dbf362e508315fa4a1380503064818802adb4", func := "loop.example/checksinorder/laws.FnExactForcedBy", spec := "fnExactForcedBy", unfollowed := true, recurses := true, named := ["loop.example/checksinorder/impl.yesStates"], apart := false, laid := [("loop.example/checksinorder/impl.yesStates", laid_loop_example_checksinorder_impl_yesStates)], narrowed := true }
def FnExactForcedByUptoSaid : Prop := fnExactForcedByUptoRow.holds Tryd.pinned (OpenSpec.upto fnExactForcedBySpec)

/-- 'laws.FnExactLeastProofs', WHERE WHAT IT READS IS OF BULK AT MOST 1048576: true; the input reads as it did. -/
def fnExactLeastProofsUptoRow : OpenClaim := { program := "ytdkcoaajodbnbaadoor", sum := "55ee20de6939d10fd33e0f44ef0dbf362e508315fa4a1380503064818802adb4", func := "loop.example/checksinorder/laws.FnExactLeastProofs", spec := "fnExactLeastProofs", unfollowed := true, recurses := true, named := ["loop.example/checksinorder/impl.yesStates"], apart := false, laid := [("loop.example/checksinorder/impl.yesStates", laid_loop_example_checksinorder_impl_yesStates)], narrowed := true }
def FnExactLeastProofsUptoSaid : Prop := fnExactLeastProofsUptoRow.holds Tryd.pinned (OpenSpec.upto fnExactLeastProofsSpec)

/-- 'laws.FnExactProofOk', WHERE WHAT IT READS IS OF BULK AT MOST 1048576: true; the input reads as it did. -/
def fnExactProofOkUptoRow : OpenClaim := { program := "ytdkcoaajodbnbaadoor", sum := "55ee20de6939d10fd33e0f44ef0dbf362e508315fa4a1380503064818802adb4", func := "loop.example/checksinorder/laws.FnExactProofOk", spec := "fnExactProofOk", unfollowed := true, recurses := true, named := ["loop.example/checksinorder/impl.yesStates"], apart := false, laid := [("loop.example/checksinorder/impl.yesStates", laid_loop_example_checksinorder_impl_yesStates)], narrowed := true }
def FnExactProofOkUptoSaid : Prop := fnExactProofOkUptoRow.holds Tryd.pinned (OpenSpec.upto fnExactProofOkSpec)

end Rows
end Go.Proofs.YtdkcoaajodbnbaaDoor
