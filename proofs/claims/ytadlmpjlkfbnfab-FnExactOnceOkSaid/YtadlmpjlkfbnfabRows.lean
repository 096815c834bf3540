/-
  No cell of these rows narrows 'for every input' (looked for: loops, veiled, ifaces, maps, wideKeys, modest, calm, conditions, laid).
  DERIVED. THE GIVEN ROWS OF THIS SEAT. 12 by the template 'for every input the law returns true; each argument reads behind the call as it read before'; 0 by the template 'total and deterministic' (their statements: YtadlmpjlkfbnfabTotals.lean).
  GIVEN WITH THE SEED: the statements are not yours to turn. If you find one false, say at which input.
  Laid BY PROGRAM, IN A SANDBOX (cutbox-rows.mjs): the forced cells as the released guide's own fill.sh prints them over the translation 5f2201030e68458f… (all of the seat's roots in one cut). By AI agents, Wed Nov 11 2026. No macro, syntax, notation, axiom, sorry.
-/
import Derived.Test.YtadlmpjlkfbnfabChecked
import GoSem.Claim
import GoSem.ClaimJoined
import GoSem.ClaimMapViews
import Derived.JoinedTies
import Derived.KernelRfl
namespace Go.Proofs.Ytadlmpjlkfbnfab
/- THE CELL 'sum', in the pinned program and in every row, IS THE sha256 OF THE DUMP (.gsa) THAT YtadlmpjlkfbnfabProg.lean LOADS. Nothing in Lean hashes anything: it is a label: what it is worth is what the hold of that sum in a sandbox is worth. -/
noncomputable def Try.pinned : Pinned := { name := "ytadlmpjlkfbnfab", sum := "5f2201030e68458f090982c809aab48f564cef8ed9ac665c445586be19840eec", checked := Try.checked }
namespace Rows
def none {H : Type} : Left H := { results := [], args := [] }

/-- 'laws.FnExactWeightOf': WHATEVER THE INPUT: true; the input reads as it did. -/
def fnExactWeightOfSpec : ChangeSpec := { name := "fnExactWeightOf", fn := fun _ => fun
  | [d1, d2] => { results := [.lit (.bool true)], args := [d1, d2] }
  | _ => none }
def fnExactWeightOfRow : OpenClaim := { program := "ytadlmpjlkfbnfab", sum := "5f2201030e68458f090982c809aab48f564cef8ed9ac665c445586be19840eec", func := "loop.example/checksinorder/laws.FnExactWeightOf", spec := "fnExactWeightOf", apart := false }
def FnExactWeightOfSaid : Prop := fnExactWeightOfRow.holds Try.pinned (OpenSpec.ofChange fnExactWeightOfSpec)

/-- ITS FALSE NEIGHBOUR: 'it returns false'. Refute it at one input. -/
def fnExactWeightOfWrong : ChangeSpec := { name := "fnExactWeightOf", fn := fun _ => fun
  | [d1, d2] => { results := [.lit (.bool false)], args := [d1, d2] }
  | _ => none }
def FnExactWeightOfWrongFalsely : Prop := fnExactWeightOfRow.holds Try.pinned (OpenSpec.ofChange fnExactWeightOfWrong)

/-- 'laws.FnExactOtherTests': WHATEVER THE INPUT: true; the input reads as it did. -/
def fnExactOtherTestsSpec : ChangeSpec := { name := "fnExactOtherTests", fn := fun _ => fun
  | [d] => { results := [.lit (.bool true)], args := [d] }
  | _ => none }
def fnExactOtherTestsRow : OpenClaim := { program := "ytadlmpjlkfbnfab", sum := "5f2201030e68458f090982c809aab48f564cef8ed9ac665c445586be19840eec", func := "loop.example/checksinorder/laws.FnExactOtherTests", spec := "fnExactOtherTests", apart := false }
def FnExactOtherTestsSaid : Prop := fnExactOtherTestsRow.holds Try.pinned (OpenSpec.ofChange fnExactOtherTestsSpec)

/-- ITS FALSE NEIGHBOUR: 'it returns false'. Refute it at one input. -/
def fnExactOtherTestsWrong : ChangeSpec := { name := "fnExactOtherTests", fn := fun _ => fun
  | [d] => { results := [.lit (.bool false)], args := [d] }
  | _ => none }
def FnExactOtherTestsWrongFalsely : Prop := fnExactOtherTestsRow.holds Try.pinned (OpenSpec.ofChange fnExactOtherTestsWrong)

/-- 'laws.FnExactKnownOk': WHATEVER THE INPUT: true; the input reads as it did. -/
def fnExactKnownOkSpec : ChangeSpec := { name := "fnExactKnownOk", fn := fun _ => fun
  | [d1, d2] => { results := [.lit (.bool true)], args := [d1, d2] }
  | _ => none }
def fnExactKnownOkRow : OpenClaim := { program := "ytadlmpjlkfbnfab", sum := "5f2201030e68458f090982c809aab48f564cef8ed9ac665c445586be19840eec", func := "loop.example/checksinorder/laws.FnExactKnownOk", spec := "fnExactKnownOk", apart := false }
def FnExactKnownOkSaid : Prop := fnExactKnownOkRow.holds Try.pinned (OpenSpec.ofChange fnExactKnownOkSpec)

/-- ITS FALSE NEIGHBOUR: 'it returns false'. Refute it at one input. -/
def fnExactKnownOkWrong : ChangeSpec := { name := "fnExactKnownOk", fn := fun _ => fun
  | [d1, d2] => { results := [.lit (.bool false)], args := [d1, d2] }
  | _ => none }
def FnExactKnownOkWrongFalsely : Prop := fnExactKnownOkRow.holds Try.pinned (OpenSpec.ofChange fnExactKnownOkWrong)

/-- 'laws.FnExactAgreesOk': WHATEVER THE INPUT: true; the input reads as it did. -/
def fnExactAgreesOkSpec : ChangeSpec := { name := "fnExactAgreesOk", fn := fun _ => fun
  | [d1, d2, d3] => { results := [.lit (.bool true)], args := [d1, d2, d3] }
  | _ => none }
def fnExactAgreesOkRow : OpenClaim := { program := "ytadlmpjlkfbnfab", sum := "5f2201030e68458f090982c809aab48f564cef8ed9ac665c445586be19840eec", func := "loop.example/checksinorder/laws.FnExactAgreesOk", spec := "fnExactAgreesOk", apart := false }
def FnExactAgreesOkSaid : Prop := fnExactAgreesOkRow.holds Try.pinned (OpenSpec.ofChange fnExactAgreesOkSpec)

/-- ITS FALSE NEIGHBOUR: 'it returns false'. Refute it at one input. -/
def fnExactAgreesOkWrong : ChangeSpec := { name := "fnExactAgreesOk", fn := fun _ => fun
  | [d1, d2, d3] => { results := [.lit (.bool false)], args := [d1, d2, d3] }
  | _ => none }
def FnExactAgreesOkWrongFalsely : Prop := fnExactAgreesOkRow.holds Try.pinned (OpenSpec.ofChange fnExactAgreesOkWrong)

/-- 'laws.FnExactWeightWhere': WHATEVER THE INPUT: true; the input reads as it did. -/
def fnExactWeightWhereSpec : ChangeSpec := { name := "fnExactWeightWhere", fn := fun _ => fun
  | [d1, d2] => { results := [.lit (.bool true)], args := [d1, d2] }
  | _ => none }
def fnExactWeightWhereRow : OpenClaim := { program := "ytadlmpjlkfbnfab", sum := "5f2201030e68458f090982c809aab48f564cef8ed9ac665c445586be19840eec", func := "loop.example/checksinorder/laws.FnExactWeightWhere", spec := "fnExactWeightWhere", apart := false }
def FnExactWeightWhereSaid : Prop := fnExactWeightWhereRow.holds Try.pinned (OpenSpec.ofChange fnExactWeightWhereSpec)

/-- ITS FALSE NEIGHBOUR: 'it returns false'. Refute it at one input. -/
def fnExactWeightWhereWrong : ChangeSpec := { name := "fnExactWeightWhere", fn := fun _ => fun
  | [d1, d2] => { results := [.lit (.bool false)], args := [d1, d2] }
  | _ => none }
def FnExactWeightWhereWrongFalsely : Prop := fnExactWeightWhereRow.holds Try.pinned (OpenSpec.ofChange fnExactWeightWhereWrong)

/-- 'laws.FnExactCostOf': WHATEVER THE INPUT: true; the input reads as it did. -/
def fnExactCostOfSpec : ChangeSpec := { name := "fnExactCostOf", fn := fun _ => fun
  | [d] => { results := [.lit (.bool true)], args := [d] }
  | _ => none }
def fnExactCostOfRow : OpenClaim := { program := "ytadlmpjlkfbnfab", sum := "5f2201030e68458f090982c809aab48f564cef8ed9ac665c445586be19840eec", func := "loop.example/checksinorder/laws.FnExactCostOf", spec := "fnExactCostOf", apart := false }
def FnExactCostOfSaid : Prop := fnExactCostOfRow.holds Try.pinned (OpenSpec.ofChange fnExactCostOfSpec)

/-- ITS FALSE NEIGHBOUR: 'it returns false'. Refute it at one input. -/
def fnExactCostOfWrong : ChangeSpec := { name := "fnExactCostOf", fn := fun _ => fun
  | [d] => { results := [.lit (.bool false)], args := [d] }
  | _ => none }
def FnExactCostOfWrongFalsely : Prop := fnExactCostOfRow.holds Try.pinned (OpenSpec.ofChange fnExactCostOfWrong)

/-- 'laws.FnExactLikeliestState': WHATEVER THE INPUT: true; the input reads as it did. -/
def fnExactLikeliestStateSpec : ChangeSpec := { name := "fnExactLikeliestState", fn := fun _ => fun
  | [d] => { results := [.lit (.bool true)], args := [d] }
  | _ => none }
def fnExactLikeliestStateRow : OpenClaim := { program := "ytadlmpjlkfbnfab", sum := "5f2201030e68458f090982c809aab48f564cef8ed9ac665c445586be19840eec", func := "loop.example/checksinorder/laws.FnExactLikeliestState", spec := "fnExactLikeliestState", apart := false }
def FnExactLikeliestStateSaid : Prop := fnExactLikeliestStateRow.holds Try.pinned (OpenSpec.ofChange fnExactLikeliestStateSpec)

/-- ITS FALSE NEIGHBOUR: 'it returns false'. Refute it at one input. -/
def fnExactLikeliestStateWrong : ChangeSpec := { name := "fnExactLikeliestState", fn := fun _ => fun
  | [d] => { results := [.lit (.bool false)], args := [d] }
  | _ => none }
def FnExactLikeliestStateWrongFalsely : Prop := fnExactLikeliestStateRow.holds Try.pinned (OpenSpec.ofChange fnExactLikeliestStateWrong)

/-- 'laws.FnExactTermOk': WHATEVER THE INPUT: true; the input reads as it did. -/
def fnExactTermOkSpec : ChangeSpec := { name := "fnExactTermOk", fn := fun _ => fun
  | [d1, d2] => { results := [.lit (.bool true)], args := [d1, d2] }
  | _ => none }
def fnExactTermOkRow : OpenClaim := { program := "ytadlmpjlkfbnfab", sum := "5f2201030e68458f090982c809aab48f564cef8ed9ac665c445586be19840eec", func := "loop.example/checksinorder/laws.FnExactTermOk", spec := "fnExactTermOk", apart := false }
def FnExactTermOkSaid : Prop := fnExactTermOkRow.holds Try.pinned (OpenSpec.ofChange fnExactTermOkSpec)

/-- ITS FALSE NEIGHBOUR: 'it returns false'. Refute it at one input. -/
def fnExactTermOkWrong : ChangeSpec := { name := "fnExactTermOk", fn := fun _ => fun
  | [d1, d2] => { results := [.lit (.bool false)], args := [d1, d2] }
  | _ => none }
def FnExactTermOkWrongFalsely : Prop := fnExactTermOkRow.holds Try.pinned (OpenSpec.ofChange fnExactTermOkWrong)

/-- 'laws.FnExactLettersOf': WHATEVER THE INPUT: true; the input reads as it did. -/
def fnExactLettersOfSpec : ChangeSpec := { name := "fnExactLettersOf", fn := fun _ => fun
  | [d1, d2] => { results := [.lit (.bool true)], args := [d1, d2] }
  | _ => none }
def fnExactLettersOfRow : OpenClaim := { program := "ytadlmpjlkfbnfab", sum := "5f2201030e68458f090982c809aab48f564cef8ed9ac665c445586be19840eec", func := "loop.example/checksinorder/laws.FnExactLettersOf", spec := "fnExactLettersOf", apart := false }
def FnExactLettersOfSaid : Prop := fnExactLettersOfRow.holds Try.pinned (OpenSpec.ofChange fnExactLettersOfSpec)

/-- ITS FALSE NEIGHBOUR: 'it returns false'. Refute it at one input. -/
def fnExactLettersOfWrong : ChangeSpec := { name := "fnExactLettersOf", fn := fun _ => fun
  | [d1, d2] => { results := [.lit (.bool false)], args := [d1, d2] }
  | _ => none }
def FnExactLettersOfWrongFalsely : Prop := fnExactLettersOfRow.holds Try.pinned (OpenSpec.ofChange fnExactLettersOfWrong)

/-- 'laws.FnExactOnceOk': WHATEVER THE INPUT: true; the input reads as it did. -/
def fnExactOnceOkSpec : ChangeSpec := { name := "fnExactOnceOk", fn := fun _ => fun
  | [d1, d2] => { results := [.lit (.bool true)], args := [d1, d2] }
  | _ => none }
def fnExactOnceOkRow : OpenClaim := { program := "ytadlmpjlkfbnfab", sum := "5f2201030e68458f090982c809aab48f564cef8ed9ac665c445586be19840eec", func := "loop.example/checksinorder/laws.FnExactOnceOk", spec := "fnExactOnceOk", apart := false }
def FnExactOnceOkSaid : Prop := fnExactOnceOkRow.holds Try.pinned (OpenSpec.ofChange fnExactOnceOkSpec)

/-- ITS FALSE NEIGHBOUR: 'it returns false'. Refute it at one input. -/
def fnExactOnceOkWrong : ChangeSpec := { name := "fnExactOnceOk", fn := fun _ => fun
  | [d1, d2] => { results := [.lit (.bool false)], args := [d1, d2] }
  | _ => none }
def FnExactOnceOkWrongFalsely : Prop := fnExactOnceOkRow.holds Try.pinned (OpenSpec.ofChange fnExactOnceOkWrong)

/-- 'laws.FnExactDualTerm': WHATEVER THE INPUT: true; the input reads as it did. -/
def fnExactDualTermSpec : ChangeSpec := { name := "fnExactDualTerm", fn := fun _ => fun
  | [d1, d2] => { results := [.lit (.bool true)], args := [d1, d2] }
  | _ => none }
def fnExactDualTermRow : OpenClaim := { program := "ytadlmpjlkfbnfab", sum := "5f2201030e68458f090982c809aab48f564cef8ed9ac665c445586be19840eec", func := "loop.example/checksinorder/laws.FnExactDualTerm", spec := "fnExactDualTerm", apart := false }
def FnExactDualTermSaid : Prop := fnExactDualTermRow.holds Try.pinned (OpenSpec.ofChange fnExactDualTermSpec)

/-- ITS FALSE NEIGHBOUR: 'it returns false'. Refute it at one input. -/
def fnExactDualTermWrong : ChangeSpec := { name := "fnExactDualTerm", fn := fun _ => fun
  | [d1, d2] => { results := [.lit (.bool false)], args := [d1, d2] }
  | _ => none }
def FnExactDualTermWrongFalsely : Prop := fnExactDualTermRow.holds Try.pinned (OpenSpec.ofChange fnExactDualTermWrong)

/-- 'laws.FnExactTermText': WHATEVER THE INPUT: true; the input reads as it did. -/
def fnExactTermTextSpec : ChangeSpec := { name := "fnExactTermText", fn := fun _ => fun
  | [d1, d2] => { results := [.lit (.bool true)], args := [d1, d2] }
  | _ => none }
def fnExactTermTextRow : OpenClaim := { program := "ytadlmpjlkfbnfab", sum := "5f2201030e68458f090982c809aab48f564cef8ed9ac665c445586be19840eec", func := "loop.example/checksinorder/laws.FnExactTermText", spec := "fnExactTermText", recurses := true, apart := false }
def FnExactTermTextSaid : Prop := fnExactTermTextRow.holds Try.pinned (OpenSpec.ofChange fnExactTermTextSpec)

/-- ITS FALSE NEIGHBOUR: 'it returns false'. Refute it at one input. -/
def fnExactTermTextWrong : ChangeSpec := { name := "fnExactTermText", fn := fun _ => fun
  | [d1, d2] => { results := [.lit (.bool false)], args := [d1, d2] }
  | _ => none }
def FnExactTermTextWrongFalsely : Prop := fnExactTermTextRow.holds Try.pinned (OpenSpec.ofChange fnExactTermTextWrong)

/- THE SECOND FORM. 'bulk': how many values and letters a reading holds, each counted each time it is reached (what is shared counts as often as it is met; a slice's spare places count too). A statement '..UptoSaid' is the law's where the arguments, and the package variables that the reading takes, are together of bulk at most 1048576: NARROWER than '..Said'. Prove '..Said' where nothing that the law and all that it calls make is longer than what came in: it says more and counts as full. Else prove '..UptoSaid'. A law counts once. -/
mutual
def uptoBulk {H : Type} : DataW H → Nat
  | .lit (.string bytes) => bytes.length + 1
  | .lit _ => 1
  | .nil => 1
  | .ptr d => uptoBulk d + 1
  | .slice elems spare => uptoBulkAll elems + uptoBulkAll spare + 1
  | .agg parts => uptoBulkAll parts + 1
  | .iface _ d => uptoBulk d + 1
  | .map entries => uptoBulkEntries entries + 1
  | .held _ => 1
def uptoBulkAll {H : Type} : List (DataW H) → Nat
  | [] => 0
  | d :: r => uptoBulk d + uptoBulkAll r
def uptoBulkEntries {H : Type} : List (Lit × DataW H) → Nat
  | [] => 0
  | x :: r => uptoBulkEntry x + uptoBulkEntries r
def uptoBulkEntry {H : Type} : Lit × DataW H → Nat
  | (.string bytes, d) => bytes.length + uptoBulk d + 1
  | (_, d) => uptoBulk d + 1
 end
def uptoSmall : (H : Type) → List (DataW H) → Bool := fun _ ds => decide (uptoBulkAll ds ≤ 1048576)
def OpenSpec.upto (s : _root_.Go.ChangeSpec) : _root_.Go.OpenSpec := { _root_.Go.OpenSpec.ofChange s with cond := some uptoSmall }

/-- 'laws.FnExactWeightOf', WHERE WHAT IT READS IS OF BULK AT MOST 1048576: true; the input reads as it did. -/
def fnExactWeightOfUptoRow : OpenClaim := { program := "ytadlmpjlkfbnfab", sum := "5f2201030e68458f090982c809aab48f564cef8ed9ac665c445586be19840eec", func := "loop.example/checksinorder/laws.FnExactWeightOf", spec := "fnExactWeightOf", apart := false, narrowed := true }
def FnExactWeightOfUptoSaid : Prop := fnExactWeightOfUptoRow.holds Try.pinned (OpenSpec.upto fnExactWeightOfSpec)

/-- 'laws.FnExactOtherTests', WHERE WHAT IT READS IS OF BULK AT MOST 1048576: true; the input reads as it did. -/
def fnExactOtherTestsUptoRow : OpenClaim := { program := "ytadlmpjlkfbnfab", sum := "5f2201030e68458f090982c809aab48f564cef8ed9ac665c445586be19840eec", func := "loop.example/checksinorder/laws.FnExactOtherTests", spec := "fnExactOtherTests", apart := false, narrowed := true }
def FnExactOtherTestsUptoSaid : Prop := fnExactOtherTestsUptoRow.holds Try.pinned (OpenSpec.upto fnExactOtherTestsSpec)

/-- 'laws.FnExactKnownOk', WHERE WHAT IT READS IS OF BULK AT MOST 1048576: true; the input reads as it did. -/
def fnExactKnownOkUptoRow : OpenClaim := { program := "ytadlmpjlkfbnfab", sum := "5f2201030e68458f090982c809aab48f564cef8ed9ac665c445586be19840eec", func := "loop.example/checksinorder/laws.FnExactKnownOk", spec := "fnExactKnownOk", apart := false, narrowed := true }
def FnExactKnownOkUptoSaid : Prop := fnExactKnownOkUptoRow.holds Try.pinned (OpenSpec.upto fnExactKnownOkSpec)

/-- 'laws.FnExactAgreesOk', WHERE WHAT IT READS IS OF BULK AT MOST 1048576: true; the input reads as it did. -/
def fnExactAgreesOkUptoRow : OpenClaim := { program := "ytadlmpjlkfbnfab", sum := "5f2201030e68458f090982c809aab48f564cef8ed9ac665c445586be19840eec", func := "loop.example/checksinorder/laws.FnExactAgreesOk", spec := "fnExactAgreesOk", apart := false, narrowed := true }
def FnExactAgreesOkUptoSaid : Prop := fnExactAgreesOkUptoRow.holds Try.pinned (OpenSpec.upto fnExactAgreesOkSpec)

/-- 'laws.FnExactWeightWhere', WHERE WHAT IT READS IS OF BULK AT MOST 1048576: true; the input reads as it did. -/
def fnExactWeightWhereUptoRow : OpenClaim := { program := "ytadlmpjlkfbnfab", sum := "5f2201030e68458f090982c809aab48f564cef8ed9ac665c445586be19840eec", func := "loop.example/checksinorder/laws.FnExactWeightWhere", spec := "fnExactWeightWhere", apart := false, narrowed := true }
def FnExactWeightWhereUptoSaid : Prop := fnExactWeightWhereUptoRow.holds Try.pinned (OpenSpec.upto fnExactWeightWhereSpec)

/-- 'laws.FnExactCostOf', WHERE WHAT IT READS IS OF BULK AT MOST 1048576: true; the input reads as it did. -/
def fnExactCostOfUptoRow : OpenClaim := { program := "ytadlmpjlkfbnfab", sum := "5f2201030e68458f090982c809aab48f564cef8ed9ac665c445586be19840eec", func := "loop.example/checksinorder/laws.FnExactCostOf", spec := "fnExactCostOf", apart := false, narrowed := true }
def FnExactCostOfUptoSaid : Prop := fnExactCostOfUptoRow.holds Try.pinned (OpenSpec.upto fnExactCostOfSpec)

/-- 'laws.FnExactLikeliestState', WHERE WHAT IT READS IS OF BULK AT MOST 1048576: true; the input reads as it did. -/
def fnExactLikeliestStateUptoRow : OpenClaim := { program := "ytadlmpjlkfbnfab", sum := "5f2201030e68458f090982c809aab48f564cef8ed9ac665c445586be19840eec", func := "loop.example/checksinorder/laws.FnExactLikeliestState", spec := "fnExactLikeliestState", apart := false, narrowed := true }
def FnExactLikeliestStateUptoSaid : Prop := fnExactLikeliestStateUptoRow.holds Try.pinned (OpenSpec.upto fnExactLikeliestStateSpec)

/-- 'laws.FnExactTermOk', WHERE WHAT IT READS IS OF BULK AT MOST 1048576: true; the input reads as it did. -/
def fnExactTermOkUptoRow : OpenClaim := { program := "ytadlmpjlkfbnfab", sum := "5f2201030e68458f090982c809aab48f564cef8ed9ac665c445586be19840eec", func := "loop.example/checksinorder/laws.FnExactTermOk", spec := "fnExactTermOk", apart := false, narrowed := true }
def FnExactTermOkUptoSaid : Prop := fnExactTermOkUptoRow.holds Try.pinned (OpenSpec.upto fnExactTermOkSpec)

/-- 'laws.FnExactLettersOf', WHERE WHAT IT READS IS OF BULK AT MOST 1048576: true; the input reads as it did. -/
def fnExactLettersOfUptoRow : OpenClaim := { program := "ytadlmpjlkfbnfab", sum := "5f2201030e68458f090982c809aab48f564cef8ed9ac665c445586be19840eec", func := "loop.example/checksinorder/laws.FnExactLettersOf", spec := "fnExactLettersOf", apart := false, narrowed := true }
def FnExactLettersOfUptoSaid : Prop := fnExactLettersOfUptoRow.holds Try.pinned (OpenSpec.upto fnExactLettersOfSpec)

/-- 'laws.FnExactOnceOk', WHERE WHAT IT READS IS OF BULK AT MOST 1048576: true; the input reads as it did. -/
def fnExactOnceOkUptoRow : OpenClaim := { program := "ytadlmpjlkfbnfab", sum := "5f2201030e68458f090982c809aab48f564cef8ed9ac665c445586be19840eec", func := "loop.example/checksinorder/laws.FnExactOnceOk", spec := "fnExactOnceOk", apart := false, narrowed := true }
def FnExactOnceOkUptoSaid : Prop := fnExactOnceOkUptoRow.holds Try.pinned (OpenSpec.upto fnExactOnceOkSpec)

/-- 'laws.FnExactDualTerm', WHERE WHAT IT READS IS OF BULK AT MOST 1048576: true; the input reads as it did. -/
def fnExactDualTermUptoRow : OpenClaim := { program := "ytadlmpjlkfbnfab", sum := "5f2201030e68458f090982c809aab48f564cef8ed9ac665c445586be19840eec", func := "loop.example/checksinorder/laws.FnExactDualTerm", spec := "fnExactDualTerm", apart := false, narrowed := true }
def FnExactDualTermUptoSaid : Prop := fnExactDualTermUptoRow.holds Try.pinned (OpenSpec.upto fnExactDualTermSpec)

/-- 'laws.FnExactTermText', WHERE WHAT IT READS IS OF BULK AT MOST 1048576: true; the input reads as it did. -/
def fnExactTermTextUptoRow : OpenClaim := { program := "ytadlmpjlkfbnfab", sum := "5f2201030e68458f090982c809aab48f564cef8ed9ac665c445586be19840eec", func := "loop.example/checksinorder/laws.FnExactTermText", spec := "fnExactTermText", recurses := true, apart := false, narrowed := true }
def FnExactTermTextUptoSaid : Prop := fnExactTermTextUptoRow.holds Try.pinned (OpenSpec.upto fnExactTermTextSpec)

end Rows
end Go.Proofs.Ytadlmpjlkfbnfab
