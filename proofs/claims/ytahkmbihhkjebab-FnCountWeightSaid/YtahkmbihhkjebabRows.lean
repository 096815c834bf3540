/-
  No cell of these rows narrows 'for every input' (looked for: loops, veiled, ifaces, maps, wideKeys, modest, calm, conditions, laid).
  DERIVED. THE GIVEN ROWS OF THIS SEAT. 3 by the template 'for every input the law returns true; each argument reads behind the call as it read before'; 0 by the template 'total and deterministic' (their statements: YtahkmbihhkjebabTotals.lean).
  GIVEN WITH THE SEED: the statements are not yours to turn. If you find one false, say at which input.
  Laid BY PROGRAM, IN A SANDBOX (cutbox-rows.mjs): the forced cells as the released guide's own fill.sh prints them over the translation 67fd897f8d083ad5… (all of the seat's roots in one cut). By AI agents, Wed Nov 11 2026. No macro, syntax, notation, axiom, sorry.
-/
import Derived.Test.YtahkmbihhkjebabChecked
import GoSem.Claim
import GoSem.ClaimJoined
import GoSem.ClaimMapViews
import Derived.JoinedTies
import Derived.KernelRfl
namespace Go.Proofs.Ytahkmbihhkjebab
/- THE CELL 'sum', in the pinned program and in every row, IS THE sha256 OF THE DUMP (.gsa) THAT YtahkmbihhkjebabProg.lean LOADS. Nothing in Lean hashes anything: it is a label: what it is worth is what the hold of that sum in a sandbox is worth. -/
noncomputable def Try.pinned : Pinned := { name := "ytahkmbihhkjebab", sum := "67fd897f8d083ad53e40aa36e8988373cf397a1ba0a93ea9fa76f4073475993a", checked := Try.checked }
namespace Rows
def none {H : Type} : Left H := { results := [], args := [] }

/-- 'laws.FnCountOk': WHATEVER THE INPUT: true; the input reads as it did. -/
def fnCountOkSpec : ChangeSpec := { name := "fnCountOk", fn := fun _ => fun
  | [d] => { results := [.lit (.bool true)], args := [d] }
  | _ => none }
def fnCountOkRow : OpenClaim := { program := "ytahkmbihhkjebab", sum := "67fd897f8d083ad53e40aa36e8988373cf397a1ba0a93ea9fa76f4073475993a", func := "loop.example/checksinorder/laws.FnCountOk", spec := "fnCountOk", apart := false }
def FnCountOkSaid : Prop := fnCountOkRow.holds Try.pinned (OpenSpec.ofChange fnCountOkSpec)

/-- ITS FALSE NEIGHBOUR: 'it returns false'. Refute it at one input. -/
def fnCountOkWrong : ChangeSpec := { name := "fnCountOk", fn := fun _ => fun
  | [d] => { results := [.lit (.bool false)], args := [d] }
  | _ => none }
def FnCountOkWrongFalsely : Prop := fnCountOkRow.holds Try.pinned (OpenSpec.ofChange fnCountOkWrong)

/-- 'laws.FnCountWeight': WHATEVER THE INPUT: true; the input reads as it did. -/
def fnCountWeightSpec : ChangeSpec := { name := "fnCountWeight", fn := fun _ => fun
  | [d] => { results := [.lit (.bool true)], args := [d] }
  | _ => none }
def fnCountWeightRow : OpenClaim := { program := "ytahkmbihhkjebab", sum := "67fd897f8d083ad53e40aa36e8988373cf397a1ba0a93ea9fa76f4073475993a", func := "loop.example/checksinorder/laws.FnCountWeight", spec := "fnCountWeight", apart := false }
def FnCountWeightSaid : Prop := fnCountWeightRow.holds Try.pinned (OpenSpec.ofChange fnCountWeightSpec)

/-- ITS FALSE NEIGHBOUR: 'it returns false'. Refute it at one input. -/
def fnCountWeightWrong : ChangeSpec := { name := "fnCountWeight", fn := fun _ => fun
  | [d] => { results := [.lit (.bool false)], args := [d] }
  | _ => none }
def FnCountWeightWrongFalsely : Prop := fnCountWeightRow.holds Try.pinned (OpenSpec.ofChange fnCountWeightWrong)

/-- 'laws.FnCountSum': WHATEVER THE INPUT: true; the input reads as it did. -/
def fnCountSumSpec : ChangeSpec := { name := "fnCountSum", fn := fun _ => fun
  | [d] => { results := [.lit (.bool true)], args := [d] }
  | _ => none }
def fnCountSumRow : OpenClaim := { program := "ytahkmbihhkjebab", sum := "67fd897f8d083ad53e40aa36e8988373cf397a1ba0a93ea9fa76f4073475993a", func := "loop.example/checksinorder/laws.FnCountSum", spec := "fnCountSum", apart := false }
def FnCountSumSaid : Prop := fnCountSumRow.holds Try.pinned (OpenSpec.ofChange fnCountSumSpec)

/-- ITS FALSE NEIGHBOUR: 'it returns false'. Refute it at one input. -/
def fnCountSumWrong : ChangeSpec := { name := "fnCountSum", fn := fun _ => fun
  | [d] => { results := [.lit (.bool false)], args := [d] }
  | _ => none }
def FnCountSumWrongFalsely : Prop := fnCountSumRow.holds Try.pinned (OpenSpec.ofChange fnCountSumWrong)

/- THE SECOND FORM. 'bulk': how many values and letters a reading holds, each counted each time it is reached (what is shared counts as often as it is met; a slice's spare places count too). A statement '..UptoSaid' is the law's where the arguments, and the package variables that the reading takes, are together of bulk at most 1048576: NARROWER than '..Said'. Prove '..Said' where nothing that the law and all that it calls make is longer than what came in: it says more and counts as full. Else prove '..UptoSaid'. A law counts once. -/
mutual
def uptoBulk {H : Type} : DataW H → Nat
  | .lit (.string bytes) => bytes.length + 1
  | .lit _ => 1
  | .nil => 1
  | .ptr d => uptoBulk d + 1
  | .slice elems spare => uptoBulkAll elems + uptoBulkAll spare + 1
  | .agg parts => uptoBulkAll parts + 1
  | .iface _ d => uptoBulk d + 1
  | .map entries => uptoBulkEntries entries + 1
  | .held _ => 1
def uptoBulkAll {H : Type} : List (DataW H) → Nat
  | [] => 0
  | d :: r => uptoBulk d + uptoBulkAll r
def uptoBulkEntries {H : Type} : List (Lit × DataW H) → Nat
  | [] => 0
  | x :: r => uptoBulkEntry x + uptoBulkEntries r
def uptoBulkEntry {H : Type} : Lit × DataW H → Nat
  | (.string bytes, d) => bytes.length + uptoBulk d + 1
  | (_, d) => uptoBulk d + 1
 end
def uptoSmall : (H : Type) → List (DataW H) → Bool := fun _ ds => decide (uptoBulkAll ds ≤ 1048576)
def OpenSpec.upto (s : _root_.Go.ChangeSpec) : _root_.Go.OpenSpec := { _root_.Go.OpenSpec.ofChange s with cond := some uptoSmall }

/-- 'laws.FnCountOk', WHERE WHAT IT READS IS OF BULK AT MOST 1048576: true; the input reads as it did. -/
def fnCountOkUptoRow : OpenClaim := { program := "ytahkmbihhkjebab", sum := "67fd897f8d083ad53e40aa36e8988373cf397a1ba0a93ea9fa76f4073475993a", func := "loop.example/checksinorder/laws.FnCountOk", spec := "fnCountOk", apart := false, narrowed := true }
def FnCountOkUptoSaid : Prop := fnCountOkUptoRow.holds Try.pinned (OpenSpec.upto fnCountOkSpec)

/-- 'laws.FnCountWeight', WHERE WHAT IT READS IS OF BULK AT MOST 1048576: true; the input reads as it did. -/
def fnCountWeightUptoRow : OpenClaim := { program := "ytahkmbihhkjebab", sum := "67fd897f8d083ad53e40aa36e8988373cf397a1ba0a93ea9fa76f4073475993a", func := "loop.example/checksinorder/laws.FnCountWeight", spec := "fnCountWeight", apart := false, narrowed := true }
def FnCountWeightUptoSaid : Prop := fnCountWeightUptoRow.holds Try.pinned (OpenSpec.upto fnCountWeightSpec)

/-- 'laws.FnCountSum', WHERE WHAT IT READS IS OF BULK AT MOST 1048576: true; the input reads as it did. -/
def fnCountSumUptoRow : OpenClaim := { program := "ytahkmbihhkjebab", sum := "67fd897f8d083ad53e40aa36e8988373cf397a1ba0a93ea9fa76f4073475993a", func := "loop.example/checksinorder/laws.FnCountSum", spec := "fnCountSum", apart := false, narrowed := true }
def FnCountSumUptoSaid : Prop := fnCountSumUptoRow.holds Try.pinned (OpenSpec.upto fnCountSumSpec)

end Rows
end Go.Proofs.Ytahkmbihhkjebab
