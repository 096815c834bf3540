/-
  No cell of these rows narrows 'for every input' (looked for: loops, veiled, ifaces, maps, wideKeys, modest, calm, conditions, laid).
  DERIVED. THE GIVEN ROWS OF THIS SEAT. 7 by the template 'for every input the law returns true; each argument reads behind the call as it read before'; 0 by the template 'total and deterministic' (their statements: YtkeooaonbgablaaTotals.lean).
  GIVEN WITH THE SEED: the statements are not yours to turn. If you find one false, say at which input.
  Laid BY PROGRAM, IN A SANDBOX (cutbox-rows.mjs): the forced cells as the released guide's own fill.sh prints them over the translation e330a4928710689f… (all of the seat's roots in one cut). By AI agents, Wed Nov 11 2026. No macro, syntax, notation, axiom, sorry.
-/
import Derived.Test.YtkeooaonbgablaaChecked
import GoSem.Claim
import GoSem.ClaimJoined
import GoSem.ClaimMapViews
import Derived.JoinedTies
import Derived.KernelRfl
namespace Go.Proofs.Ytkeooaonbgablaa
/- THE CELL 'sum', in the pinned program and in every row, IS THE sha256 OF THE DUMP (.gsa) THAT YtkeooaonbgablaaProg.lean LOADS. Nothing in Lean hashes anything: it is a label: what it is worth is what the hold of that sum in a sandbox is worth. -/
noncomputable def Try.pinned : Pinned := { name := "ytkeooaonbgablaa", sum := "e330a4928710689f86cf85f99fa78d388c72a28b79b29d9f9eced7b761cf29ac", checked := Try.checked }
namespace Rows
def none {H : Type} : Left H := { results := [], args := [] }

/-- 'laws.FnRowTerm': WHATEVER THE INPUT: true; the input reads as it did. -/
def fnRowTermSpec : ChangeSpec := { name := "fnRowTerm", fn := fun _ => fun
  | [d] => { results := [.lit (.bool true)], args := [d] }
  | _ => none }
def fnRowTermRow : OpenClaim := { program := "ytkeooaonbgablaa", sum := "e330a4928710689f86cf85f99fa78d388c72a28b79b29d9f9eced7b761cf29ac", func := "loop.example/checksinorder/laws.FnRowTerm", spec := "fnRowTerm", apart := false }
def FnRowTermSaid : Prop := fnRowTermRow.holds Try.pinned (OpenSpec.ofChange fnRowTermSpec)

/-- ITS FALSE NEIGHBOUR: 'it returns false'. Refute it at one input. -/
def fnRowTermWrong : ChangeSpec := { name := "fnRowTerm", fn := fun _ => fun
  | [d] => { results := [.lit (.bool false)], args := [d] }
  | _ => none }
def FnRowTermWrongFalsely : Prop := fnRowTermRow.holds Try.pinned (OpenSpec.ofChange fnRowTermWrong)

/-- 'laws.FnSwapGain': WHATEVER THE INPUT: true; the input reads as it did. -/
def fnSwapGainSpec : ChangeSpec := { name := "fnSwapGain", fn := fun _ => fun
  | [d] => { results := [.lit (.bool true)], args := [d] }
  | _ => none }
def fnSwapGainRow : OpenClaim := { program := "ytkeooaonbgablaa", sum := "e330a4928710689f86cf85f99fa78d388c72a28b79b29d9f9eced7b761cf29ac", func := "loop.example/checksinorder/laws.FnSwapGain", spec := "fnSwapGain", apart := false }
def FnSwapGainSaid : Prop := fnSwapGainRow.holds Try.pinned (OpenSpec.ofChange fnSwapGainSpec)

/-- ITS FALSE NEIGHBOUR: 'it returns false'. Refute it at one input. -/
def fnSwapGainWrong : ChangeSpec := { name := "fnSwapGain", fn := fun _ => fun
  | [d] => { results := [.lit (.bool false)], args := [d] }
  | _ => none }
def FnSwapGainWrongFalsely : Prop := fnSwapGainRow.holds Try.pinned (OpenSpec.ofChange fnSwapGainWrong)

/-- 'laws.FnRatioSwaps': WHATEVER THE INPUT: true; the input reads as it did. -/
def fnRatioSwapsSpec : ChangeSpec := { name := "fnRatioSwaps", fn := fun _ => fun
  | [d] => { results := [.lit (.bool true)], args := [d] }
  | _ => none }
def fnRatioSwapsRow : OpenClaim := { program := "ytkeooaonbgablaa", sum := "e330a4928710689f86cf85f99fa78d388c72a28b79b29d9f9eced7b761cf29ac", func := "loop.example/checksinorder/laws.FnRatioSwaps", spec := "fnRatioSwaps", inPlace := ["slices.overlaps[int]"], unfollowed := true, recurses := true, apart := false }
def FnRatioSwapsSaid : Prop := fnRatioSwapsRow.holds Try.pinned (OpenSpec.ofChange fnRatioSwapsSpec)

/-- ITS FALSE NEIGHBOUR: 'it returns false'. Refute it at one input. -/
def fnRatioSwapsWrong : ChangeSpec := { name := "fnRatioSwaps", fn := fun _ => fun
  | [d] => { results := [.lit (.bool false)], args := [d] }
  | _ => none }
def FnRatioSwapsWrongFalsely : Prop := fnRatioSwapsRow.holds Try.pinned (OpenSpec.ofChange fnRatioSwapsWrong)

/-- 'laws.FnExactRowTerm': WHATEVER THE INPUT: true; the input reads as it did. -/
def fnExactRowTermSpec : ChangeSpec := { name := "fnExactRowTerm", fn := fun _ => fun
  | [d1, d2] => { results := [.lit (.bool true)], args := [d1, d2] }
  | _ => none }
def fnExactRowTermRow : OpenClaim := { program := "ytkeooaonbgablaa", sum := "e330a4928710689f86cf85f99fa78d388c72a28b79b29d9f9eced7b761cf29ac", func := "loop.example/checksinorder/laws.FnExactRowTerm", spec := "fnExactRowTerm", apart := false }
def FnExactRowTermSaid : Prop := fnExactRowTermRow.holds Try.pinned (OpenSpec.ofChange fnExactRowTermSpec)

/-- ITS FALSE NEIGHBOUR: 'it returns false'. Refute it at one input. -/
def fnExactRowTermWrong : ChangeSpec := { name := "fnExactRowTerm", fn := fun _ => fun
  | [d1, d2] => { results := [.lit (.bool false)], args := [d1, d2] }
  | _ => none }
def FnExactRowTermWrongFalsely : Prop := fnExactRowTermRow.holds Try.pinned (OpenSpec.ofChange fnExactRowTermWrong)

/-- 'laws.FnExactRatioOrder': WHATEVER THE INPUT: true; the input reads as it did. -/
def fnExactRatioOrderSpec : ChangeSpec := { name := "fnExactRatioOrder", fn := fun _ => fun
  | [d1, d2] => { results := [.lit (.bool true)], args := [d1, d2] }
  | _ => none }
def fnExactRatioOrderRow : OpenClaim := { program := "ytkeooaonbgablaa", sum := "e330a4928710689f86cf85f99fa78d388c72a28b79b29d9f9eced7b761cf29ac", func := "loop.example/checksinorder/laws.FnExactRatioOrder", spec := "fnExactRatioOrder", inPlace := ["slices.overlaps[int]"], unfollowed := true, recurses := true, apart := false }
def FnExactRatioOrderSaid : Prop := fnExactRatioOrderRow.holds Try.pinned (OpenSpec.ofChange fnExactRatioOrderSpec)

/-- ITS FALSE NEIGHBOUR: 'it returns false'. Refute it at one input. -/
def fnExactRatioOrderWrong : ChangeSpec := { name := "fnExactRatioOrder", fn := fun _ => fun
  | [d1, d2] => { results := [.lit (.bool false)], args := [d1, d2] }
  | _ => none }
def FnExactRatioOrderWrongFalsely : Prop := fnExactRatioOrderRow.holds Try.pinned (OpenSpec.ofChange fnExactRatioOrderWrong)

/-- 'laws.FnExactRowAverage': WHATEVER THE INPUT: true; the input reads as it did. -/
def fnExactRowAverageSpec : ChangeSpec := { name := "fnExactRowAverage", fn := fun _ => fun
  | [d1, d2, d3] => { results := [.lit (.bool true)], args := [d1, d2, d3] }
  | _ => none }
def fnExactRowAverageRow : OpenClaim := { program := "ytkeooaonbgablaa", sum := "e330a4928710689f86cf85f99fa78d388c72a28b79b29d9f9eced7b761cf29ac", func := "loop.example/checksinorder/laws.FnExactRowAverage", spec := "fnExactRowAverage", apart := false }
def FnExactRowAverageSaid : Prop := fnExactRowAverageRow.holds Try.pinned (OpenSpec.ofChange fnExactRowAverageSpec)

/-- ITS FALSE NEIGHBOUR: 'it returns false'. Refute it at one input. -/
def fnExactRowAverageWrong : ChangeSpec := { name := "fnExactRowAverage", fn := fun _ => fun
  | [d1, d2, d3] => { results := [.lit (.bool false)], args := [d1, d2, d3] }
  | _ => none }
def FnExactRowAverageWrongFalsely : Prop := fnExactRowAverageRow.holds Try.pinned (OpenSpec.ofChange fnExactRowAverageWrong)

/-- 'laws.FnExactSwapGain': WHATEVER THE INPUT: true; the input reads as it did. -/
def fnExactSwapGainSpec : ChangeSpec := { name := "fnExactSwapGain", fn := fun _ => fun
  | [d1, d2, d3, d4] => { results := [.lit (.bool true)], args := [d1, d2, d3, d4] }
  | _ => none }
def fnExactSwapGainRow : OpenClaim := { program := "ytkeooaonbgablaa", sum := "e330a4928710689f86cf85f99fa78d388c72a28b79b29d9f9eced7b761cf29ac", func := "loop.example/checksinorder/laws.FnExactSwapGain", spec := "fnExactSwapGain", apart := false }
def FnExactSwapGainSaid : Prop := fnExactSwapGainRow.holds Try.pinned (OpenSpec.ofChange fnExactSwapGainSpec)

/-- ITS FALSE NEIGHBOUR: 'it returns false'. Refute it at one input. -/
def fnExactSwapGainWrong : ChangeSpec := { name := "fnExactSwapGain", fn := fun _ => fun
  | [d1, d2, d3, d4] => { results := [.lit (.bool false)], args := [d1, d2, d3, d4] }
  | _ => none }
def FnExactSwapGainWrongFalsely : Prop := fnExactSwapGainRow.holds Try.pinned (OpenSpec.ofChange fnExactSwapGainWrong)

/- THE SECOND FORM. 'bulk': how many values and letters a reading holds, each counted each time it is reached (what is shared counts as often as it is met; a slice's spare places count too). A statement '..UptoSaid' is the law's where the arguments, and the package variables that the reading takes, are together of bulk at most 1048576: NARROWER than '..Said'. Prove '..Said' where nothing that the law and all that it calls make is longer than what came in: it says more and counts as full. Else prove '..UptoSaid'. A law counts once. -/
mutual
def uptoBulk {H : Type} : DataW H → Nat
  | .lit (.string bytes) => bytes.length + 1
  | .lit _ => 1
  | .nil => 1
  | .ptr d => uptoBulk d + 1
  | .slice elems spare => uptoBulkAll elems + uptoBulkAll spare + 1
  | .agg parts => uptoBulkAll parts + 1
  | .iface _ d => uptoBulk d + 1
  | .map entries => uptoBulkEntries entries + 1
  | .held _ => 1
def uptoBulkAll {H : Type} : List (DataW H) → Nat
  | [] => 0
  | d :: r => uptoBulk d + uptoBulkAll r
def uptoBulkEntries {H : Type} : List (Lit × DataW H) → Nat
  | [] => 0
  | x :: r => uptoBulkEntry x + uptoBulkEntries r
def uptoBulkEntry {H : Type} : Lit × DataW H → Nat
  | (.string bytes, d) => bytes.length + uptoBulk d + 1
  | (_, d) => uptoBulk d + 1
 end
def uptoSmall : (H : Type) → List (DataW H) → Bool := fun _ ds => decide (uptoBulkAll ds ≤ 1048576)
def OpenSpec.upto (s : _root_.Go.ChangeSpec) : _root_.Go.OpenSpec := { _root_.Go.OpenSpec.ofChange s with cond := some uptoSmall }

/-- 'laws.FnRowTerm', WHERE WHAT IT READS IS OF BULK AT MOST 1048576: true; the input reads as it did. -/
def fnRowTermUptoRow : OpenClaim := { program := "ytkeooaonbgablaa", sum := "e330a4928710689f86cf85f99fa78d388c72a28b79b29d9f9eced7b761cf29ac", func := "loop.example/checksinorder/laws.FnRowTerm", spec := "fnRowTerm", apart := false, narrowed := true }
def FnRowTermUptoSaid : Prop := fnRowTermUptoRow.holds Try.pinned (OpenSpec.upto fnRowTermSpec)

/-- 'laws.FnSwapGain', WHERE WHAT IT READS IS OF BULK AT MOST 1048576: true; the input reads as it did. -/
def fnSwapGainUptoRow : OpenClaim := { program := "ytkeooaonbgablaa", sum := "e330a4928710689f86cf85f99fa78d388c72a28b79b29d9f9eced7b761cf29ac", func := "loop.example/checksinorder/laws.FnSwapGain", spec := "fnSwapGain", apart := false, narrowed := true }
def FnSwapGainUptoSaid : Prop := fnSwapGainUptoRow.holds Try.pinned (OpenSpec.upto fnSwapGainSpec)

/-- 'laws.FnRatioSwaps', WHERE WHAT IT READS IS OF BULK AT MOST 1048576: true; the input reads as it did. -/
def fnRatioSwapsUptoRow : OpenClaim := { program := "ytkeooaonbgablaa", sum := "e330a4928710689f86cf85f99fa78d388c72a28b79b29d9f9eced7b761cf29ac", func := "loop.example/checksinorder/laws.FnRatioSwaps", spec := "fnRatioSwaps", inPlace := ["slices.overlaps[int]"], unfollowed := true, recurses := true, apart := false, narrowed := true }
def FnRatioSwapsUptoSaid : Prop := fnRatioSwapsUptoRow.holds Try.pinned (OpenSpec.upto fnRatioSwapsSpec)

/-- 'laws.FnExactRowTerm', WHERE WHAT IT READS IS OF BULK AT MOST 1048576: true; the input reads as it did. -/
def fnExactRowTermUptoRow : OpenClaim := { program := "ytkeooaonbgablaa", sum := "e330a4928710689f86cf85f99fa78d388c72a28b79b29d9f9eced7b761cf29ac", func := "loop.example/checksinorder/laws.FnExactRowTerm", spec := "fnExactRowTerm", apart := false, narrowed := true }
def FnExactRowTermUptoSaid : Prop := fnExactRowTermUptoRow.holds Try.pinned (OpenSpec.upto fnExactRowTermSpec)

/-- 'laws.FnExactRatioOrder', WHERE WHAT IT READS IS OF BULK AT MOST 1048576: true; the input reads as it did. -/
def fnExactRatioOrderUptoRow : OpenClaim := { program := "ytkeooaonbgablaa", sum := "e330a4928710689f86cf85f99fa78d388c72a28b79b29d9f9eced7b761cf29ac", func := "loop.example/checksinorder/laws.FnExactRatioOrder", spec := "fnExactRatioOrder", inPlace := ["slices.overlaps[int]"], unfollowed := true, recurses := true, apart := false, narrowed := true }
def FnExactRatioOrderUptoSaid : Prop := fnExactRatioOrderUptoRow.holds Try.pinned (OpenSpec.upto fnExactRatioOrderSpec)

/-- 'laws.FnExactRowAverage', WHERE WHAT IT READS IS OF BULK AT MOST 1048576: true; the input reads as it did. -/
def fnExactRowAverageUptoRow : OpenClaim := { program := "ytkeooaonbgablaa", sum := "e330a4928710689f86cf85f99fa78d388c72a28b79b29d9f9eced7b761cf29ac", func := "loop.example/checksinorder/laws.FnExactRowAverage", spec := "fnExactRowAverage", apart := false, narrowed := true }
def FnExactRowAverageUptoSaid : Prop := fnExactRowAverageUptoRow.holds Try.pinned (OpenSpec.upto fnExactRowAverageSpec)

/-- 'laws.FnExactSwapGain', WHERE WHAT IT READS IS OF BULK AT MOST 1048576: true; the input reads as it did. -/
def fnExactSwapGainUptoRow : OpenClaim := { program := "ytkeooaonbgablaa", sum := "e330a4928710689f86cf85f99fa78d388c72a28b79b29d9f9eced7b761cf29ac", func := "loop.example/checksinorder/laws.FnExactSwapGain", spec := "fnExactSwapGain", apart := false, narrowed := true }
def FnExactSwapGainUptoSaid : Prop := fnExactSwapGainUptoRow.holds Try.pinned (OpenSpec.upto fnExactSwapGainSpec)

end Rows
end Go.Proofs.Ytkeooaonbgablaa
