/-
  NARROWER THAN 'FOR EVERY INPUT', by the rows' own cells (each row's printed sentence says how): FnRatioOrder: laid · FnRowAverage: laid · FnRowChance: laid.
  DERIVED. THE GIVEN ROWS OF THIS SEAT. 3 by the template 'for every input the law returns true; each argument reads behind the call as it read before'; 0 by the template 'total and deterministic' (their statements: YtkeooaonbgablaaDoorTotals.lean).
  GIVEN WITH THE SEED: the statements are not yours to turn. If you find one false, say at which input.
  Laid BY PROGRAM, IN A SANDBOX (cutbox-rows.mjs): the forced cells as the released guide's own fill.sh prints them over the translation b5fe794473d011ab… (all of the seat's roots in one cut). By AI agents, Wed Nov 11 2026. No macro, syntax, notation, axiom, sorry.
-/
import Derived.Test.YtkeooaonbgablaaDoorChecked
import GoSem.Claim
import GoSem.ClaimJoined
import GoSem.ClaimMapViews
import Derived.JoinedTies
import Derived.KernelRfl
namespace Go.Proofs.YtkeooaonbgablaaDoor
/- THE CELL 'sum', in the pinned program and in every row, IS THE sha256 OF THE DUMP (.gsa) THAT YtkeooaonbgablaaDoorProg.lean LOADS. Nothing in Lean hashes anything: it is a label: what it is worth is what the hold of that sum in a sandbox is worth. -/
noncomputable def Tryd.pinned : Pinned := { name := "ytkeooaonbgablaadoor", sum := "b5fe794473d011abdb700c16358acd94fd6fad47d5d7a14c5e313765d6607c4e", checked := Tryd.checked }
namespace Rows
def none {H : Type} : Left H := { results := [], args := [] }

/- WHAT THE LISTED PACKAGE-LEVEL VARIABLES READ AS WHEN THE CALL BEGINS. Each datum BY PROGRAM (the guide's laid-datum.mjs) off the statement by which the dump's own 'gosem.cut.vars' lays the variable. In a bare row this is a premise. The card (YtkeooaonbgablaaDoorCards.lean) ties it to the program's text. -/
def laid_loop_example_checksinorder_impl_yesStates {H : Type} : DataW H := .agg [.lit (.int .u32 2863311530), .lit (.int .u32 3435973836), .lit (.int .u32 4042322160), .lit (.int .u32 4278255360), .lit (.int .u32 4294901760)]

/-- 'laws.FnRatioOrder': WHATEVER THE INPUT: true; the input reads as it did. -/
def fnRatioOrderSpec : ChangeSpec := { name := "fnRatioOrder", vars := ["loop.example/checksinorder/impl.yesStates"], fn := fun _ => fun
  | [d, g1] => { results := [.lit (.bool true)], args := [d], vars := [g1] }
  | _ => none }
def fnRatioOrderRow : OpenClaim := { program := "ytkeooaonbgablaadoor", sum := "b5fe794473d011abdb700c16358acd94fd6fad47d5d7a14c5e313765d6607c4e", func := "loop.example/checksinorder/laws.FnRatioOrder", spec := "fnRatioOrder", inPlace := ["slices.overlaps[int]"], unfollowed := true, recurses := true, named := ["loop.example/checksinorder/impl.yesStates"], apart := false, laid := [("loop.example/checksinorder/impl.yesStates", laid_loop_example_checksinorder_impl_yesStates)] }
def FnRatioOrderSaid : Prop := fnRatioOrderRow.holds Tryd.pinned (OpenSpec.ofChange fnRatioOrderSpec)

/-- ITS FALSE NEIGHBOUR: 'it returns false'. Refute it at one input. -/
def fnRatioOrderWrong : ChangeSpec := { name := "fnRatioOrder", vars := ["loop.example/checksinorder/impl.yesStates"], fn := fun _ => fun
  | [d, g1] => { results := [.lit (.bool false)], args := [d], vars := [g1] }
  | _ => none }
def FnRatioOrderWrongFalsely : Prop := fnRatioOrderRow.holds Tryd.pinned (OpenSpec.ofChange fnRatioOrderWrong)

/-- 'laws.FnRowAverage': WHATEVER THE INPUT: true; the input reads as it did. -/
def fnRowAverageSpec : ChangeSpec := { name := "fnRowAverage", vars := ["loop.example/checksinorder/impl.yesStates"], fn := fun _ => fun
  | [d, g1] => { results := [.lit (.bool true)], args := [d], vars := [g1] }
  | _ => none }
def fnRowAverageRow : OpenClaim := { program := "ytkeooaonbgablaadoor", sum := "b5fe794473d011abdb700c16358acd94fd6fad47d5d7a14c5e313765d6607c4e", func := "loop.example/checksinorder/laws.FnRowAverage", spec := "fnRowAverage", unfollowed := true, recurses := true, named := ["loop.example/checksinorder/impl.yesStates"], apart := false, laid := [("loop.example/checksinorder/impl.yesStates", laid_loop_example_checksinorder_impl_yesStates)] }
def FnRowAverageSaid : Prop := fnRowAverageRow.holds Tryd.pinned (OpenSpec.ofChange fnRowAverageSpec)

/-- ITS FALSE NEIGHBOUR: 'it returns false'. Refute it at one input. -/
def fnRowAverageWrong : ChangeSpec := { name := "fnRowAverage", vars := ["loop.example/checksinorder/impl.yesStates"], fn := fun _ => fun
  | [d, g1] => { results := [.lit (.bool false)], args := [d], vars := [g1] }
  | _ => none }
def FnRowAverageWrongFalsely : Prop := fnRowAverageRow.holds Tryd.pinned (OpenSpec.ofChange fnRowAverageWrong)

/-- 'laws.FnRowChance': WHATEVER THE INPUT: true; the input reads as it did. -/
def fnRowChanceSpec : ChangeSpec := { name := "fnRowChance", vars := ["loop.example/checksinorder/impl.yesStates"], fn := fun _ => fun
  | [d, g1] => { results := [.lit (.bool true)], args := [d], vars := [g1] }
  | _ => none }
def fnRowChanceRow : OpenClaim := { program := "ytkeooaonbgablaadoor", sum := "b5fe794473d011abdb700c16358acd94fd6fad47d5d7a14c5e313765d6607c4e", func := "loop.example/checksinorder/laws.FnRowChance", spec := "fnRowChance", unfollowed := true, recurses := true, named := ["loop.example/checksinorder/impl.yesStates"], apart := false, laid := [("loop.example/checksinorder/impl.yesStates", laid_loop_example_checksinorder_impl_yesStates)] }
def FnRowChanceSaid : Prop := fnRowChanceRow.holds Tryd.pinned (OpenSpec.ofChange fnRowChanceSpec)

/-- ITS FALSE NEIGHBOUR: 'it returns false'. Refute it at one input. -/
def fnRowChanceWrong : ChangeSpec := { name := "fnRowChance", vars := ["loop.example/checksinorder/impl.yesStates"], fn := fun _ => fun
  | [d, g1] => { results := [.lit (.bool false)], args := [d], vars := [g1] }
  | _ => none }
def FnRowChanceWrongFalsely : Prop := fnRowChanceRow.holds Tryd.pinned (OpenSpec.ofChange fnRowChanceWrong)

/- THE SECOND FORM. 'bulk': how many values and letters a reading holds, each counted each time it is reached (what is shared counts as often as it is met; a slice's spare places count too). A statement '..UptoSaid' is the law's where the arguments, and the package variables that the reading takes, are together of bulk at most 1048576: NARROWER than '..Said'. Prove '..Said' where nothing that the law and all that it calls make is longer than what came in: it says more and counts as full. Else prove '..UptoSaid'. A law counts once. -/
mutual
def uptoBulk {H : Type} : DataW H → Nat
  | .lit (.string bytes) => bytes.length + 1
  | .lit _ => 1
  | .nil => 1
  | .ptr d => uptoBulk d + 1
  | .slice elems spare => uptoBulkAll elems + uptoBulkAll spare + 1
  | .agg parts => uptoBulkAll parts + 1
  | .iface _ d => uptoBulk d + 1
  | .map entries => uptoBulkEntries entries + 1
  | .held _ => 1
def uptoBulkAll {H : Type} : List (DataW H) → Nat
  | [] => 0
  | d :: r => uptoBulk d + uptoBulkAll r
def uptoBulkEntries {H : Type} : List (Lit × DataW H) → Nat
  | [] => 0
  | x :: r => uptoBulkEntry x + uptoBulkEntries r
def uptoBulkEntry {H : Type} : Lit × DataW H → Nat
  | (.string bytes, d) => bytes.length + uptoBulk d + 1
  | (_, d) => uptoBulk d + 1
 end
def uptoSmall : (H : Type) → List (DataW H) → Bool := fun _ ds => decide (uptoBulkAll ds ≤ 1048576)
def OpenSpec.upto (s : _root_.Go.ChangeSpec) : _root_.Go.OpenSpec := { _root_.Go.OpenSpec.ofChange s with cond := some uptoSmall }

/-- 'laws.FnRatioOrder', WHERE WHAT IT READS IS OF BULK AT MOST 1048576: true; the input reads as it did. -/
def fnRatioOrderUptoRow : OpenClaim := { program := "ytkeooaonbgablaadoor", sum := "b5fe794473d011abdb700c16358acd94fd6fad47d5d7a14c5e313765d6607c4e", func := "loop.example/checksinorder/laws.FnRatioOrder", spec := "fnRatioOrder", inPlace := ["slices.overlaps[int]"], unfollowed := true, recurses := true, named := ["loop.example/checksinorder/impl.yesStates"], apart := false, laid := [("loop.example/checksinorder/impl.yesStates", laid_loop_example_checksinorder_impl_yesStates)], narrowed := true }
def FnRatioOrderUptoSaid : Prop := fnRatioOrderUptoRow.holds Tryd.pinned (OpenSpec.upto fnRatioOrderSpec)

/-- 'laws.FnRowAverage', WHERE WHAT IT READS IS OF BULK AT MOST 1048576: true; the input reads as it did. -/
def fnRowAverageUptoRow : OpenClaim := { program := "ytkeooaonbgablaadoor", sum := "b5fe794473d011abdb700c16358acd94fd6fad47d5d7a14c5e313765d6607c4e", func := "loop.example/checksinorder/laws.FnRowAverage", spec := "fnRowAverage", unfollowed := true, recurses := true, named := ["loop.example/checksinorder/impl.yesStates"], apart := false, laid := [("loop.example/checksinorder/impl.yesStates", laid_loop_example_checksinorder_impl_yesStates)], narrowed := true }
def FnRowAverageUptoSaid : Prop := fnRowAverageUptoRow.holds Tryd.pinned (OpenSpec.upto fnRowAverageSpec)

/-- 'laws.FnRowChance', WHERE WHAT IT READS IS OF BULK AT MOST 1048576: true; the input reads as it did. -/
def fnRowChanceUptoRow : OpenClaim := { program := "ytkeooaonbgablaadoor", sum := "b5fe794473d011abdb700c16358acd94fd6fad47d5d7a14c5e313765d6607c4e", func := "loop.example/checksinorder/laws.FnRowChance", spec := "fnRowChance", unfollowed := true, recurses := true, named := ["loop.example/checksinorder/impl.yesStates"], apart := false, laid := [("loop.example/checksinorder/impl.yesStates", laid_loop_example_checksinorder_impl_yesStates)], narrowed := true }
def FnRowChanceUptoSaid : Prop := fnRowChanceUptoRow.holds Tryd.pinned (OpenSpec.upto fnRowChanceSpec)

end Rows
end Go.Proofs.YtkeooaonbgablaaDoor
