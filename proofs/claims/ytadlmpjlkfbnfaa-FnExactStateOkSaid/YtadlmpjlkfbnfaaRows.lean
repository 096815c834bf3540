/-
  No cell of these rows narrows 'for every input' (looked for: loops, veiled, ifaces, maps, wideKeys, modest, calm, conditions, laid).
  DERIVED. THE GIVEN ROWS OF THIS SEAT. 12 by the template 'for every input the law returns true; each argument reads behind the call as it read before'; 0 by the template 'total and deterministic' (their statements: YtadlmpjlkfbnfaaTotals.lean).
  GIVEN WITH THE SEED: the statements are not yours to turn. If you find one false, say at which input.
  Laid BY PROGRAM, IN A SANDBOX (cutbox-rows.mjs): the forced cells as the released guide's own fill.sh prints them over the translation f6660bfc45421ec1… (all of the seat's roots in one cut). By AI agents, Wed Nov 11 2026. No macro, syntax, notation, axiom, sorry.
-/
import Derived.Test.YtadlmpjlkfbnfaaChecked
import GoSem.Claim
import GoSem.ClaimJoined
import GoSem.ClaimMapViews
import Derived.JoinedTies
import Derived.KernelRfl
namespace Go.Proofs.Ytadlmpjlkfbnfaa
/- THE CELL 'sum', in the pinned program and in every row, IS THE sha256 OF THE DUMP (.gsa) THAT YtadlmpjlkfbnfaaProg.lean LOADS. Nothing in Lean hashes anything: it is a label: what it is worth is what the hold of that sum in a sandbox is worth. -/
noncomputable def Try.pinned : Pinned := { name := "ytadlmpjlkfbnfaa", sum := "f6660bfc45421ec115b2df46a5e9b26c58899b07237a9aa1ab92f639fe346adf", checked := Try.checked }
namespace Rows
def none {H : Type} : Left H := { results := [], args := [] }

/-- 'laws.FnTestsOk': WHATEVER THE INPUT: true; the input reads as it did. -/
def fnTestsOkSpec : ChangeSpec := { name := "fnTestsOk", fn := fun _ => fun
  | [d] => { results := [.lit (.bool true)], args := [d] }
  | _ => none }
def fnTestsOkRow : OpenClaim := { program := "ytadlmpjlkfbnfaa", sum := "f6660bfc45421ec115b2df46a5e9b26c58899b07237a9aa1ab92f639fe346adf", func := "loop.example/checksinorder/laws.FnTestsOk", spec := "fnTestsOk", apart := false }
def FnTestsOkSaid : Prop := fnTestsOkRow.holds Try.pinned (OpenSpec.ofChange fnTestsOkSpec)

/-- ITS FALSE NEIGHBOUR: 'it returns false'. Refute it at one input. -/
def fnTestsOkWrong : ChangeSpec := { name := "fnTestsOk", fn := fun _ => fun
  | [d] => { results := [.lit (.bool false)], args := [d] }
  | _ => none }
def FnTestsOkWrongFalsely : Prop := fnTestsOkRow.holds Try.pinned (OpenSpec.ofChange fnTestsOkWrong)

/-- 'laws.FnStateOk': WHATEVER THE INPUT: true; the input reads as it did. -/
def fnStateOkSpec : ChangeSpec := { name := "fnStateOk", fn := fun _ => fun
  | [d] => { results := [.lit (.bool true)], args := [d] }
  | _ => none }
def fnStateOkRow : OpenClaim := { program := "ytadlmpjlkfbnfaa", sum := "f6660bfc45421ec115b2df46a5e9b26c58899b07237a9aa1ab92f639fe346adf", func := "loop.example/checksinorder/laws.FnStateOk", spec := "fnStateOk", apart := false }
def FnStateOkSaid : Prop := fnStateOkRow.holds Try.pinned (OpenSpec.ofChange fnStateOkSpec)

/-- ITS FALSE NEIGHBOUR: 'it returns false'. Refute it at one input. -/
def fnStateOkWrong : ChangeSpec := { name := "fnStateOk", fn := fun _ => fun
  | [d] => { results := [.lit (.bool false)], args := [d] }
  | _ => none }
def FnStateOkWrongFalsely : Prop := fnStateOkRow.holds Try.pinned (OpenSpec.ofChange fnStateOkWrong)

/-- 'laws.FnWeightOf': WHATEVER THE INPUT: true; the input reads as it did. -/
def fnWeightOfSpec : ChangeSpec := { name := "fnWeightOf", fn := fun _ => fun
  | [d] => { results := [.lit (.bool true)], args := [d] }
  | _ => none }
def fnWeightOfRow : OpenClaim := { program := "ytadlmpjlkfbnfaa", sum := "f6660bfc45421ec115b2df46a5e9b26c58899b07237a9aa1ab92f639fe346adf", func := "loop.example/checksinorder/laws.FnWeightOf", spec := "fnWeightOf", apart := false }
def FnWeightOfSaid : Prop := fnWeightOfRow.holds Try.pinned (OpenSpec.ofChange fnWeightOfSpec)

/-- ITS FALSE NEIGHBOUR: 'it returns false'. Refute it at one input. -/
def fnWeightOfWrong : ChangeSpec := { name := "fnWeightOf", fn := fun _ => fun
  | [d] => { results := [.lit (.bool false)], args := [d] }
  | _ => none }
def FnWeightOfWrongFalsely : Prop := fnWeightOfRow.holds Try.pinned (OpenSpec.ofChange fnWeightOfWrong)

/-- 'laws.FnOtherTests': WHATEVER THE INPUT: true; the input reads as it did. -/
def fnOtherTestsSpec : ChangeSpec := { name := "fnOtherTests", fn := fun _ => fun
  | [d] => { results := [.lit (.bool true)], args := [d] }
  | _ => none }
def fnOtherTestsRow : OpenClaim := { program := "ytadlmpjlkfbnfaa", sum := "f6660bfc45421ec115b2df46a5e9b26c58899b07237a9aa1ab92f639fe346adf", func := "loop.example/checksinorder/laws.FnOtherTests", spec := "fnOtherTests", apart := false }
def FnOtherTestsSaid : Prop := fnOtherTestsRow.holds Try.pinned (OpenSpec.ofChange fnOtherTestsSpec)

/-- ITS FALSE NEIGHBOUR: 'it returns false'. Refute it at one input. -/
def fnOtherTestsWrong : ChangeSpec := { name := "fnOtherTests", fn := fun _ => fun
  | [d] => { results := [.lit (.bool false)], args := [d] }
  | _ => none }
def FnOtherTestsWrongFalsely : Prop := fnOtherTestsRow.holds Try.pinned (OpenSpec.ofChange fnOtherTestsWrong)

/-- 'laws.FnKnownOk': WHATEVER THE INPUT: true; the input reads as it did. -/
def fnKnownOkSpec : ChangeSpec := { name := "fnKnownOk", fn := fun _ => fun
  | [d] => { results := [.lit (.bool true)], args := [d] }
  | _ => none }
def fnKnownOkRow : OpenClaim := { program := "ytadlmpjlkfbnfaa", sum := "f6660bfc45421ec115b2df46a5e9b26c58899b07237a9aa1ab92f639fe346adf", func := "loop.example/checksinorder/laws.FnKnownOk", spec := "fnKnownOk", apart := false }
def FnKnownOkSaid : Prop := fnKnownOkRow.holds Try.pinned (OpenSpec.ofChange fnKnownOkSpec)

/-- ITS FALSE NEIGHBOUR: 'it returns false'. Refute it at one input. -/
def fnKnownOkWrong : ChangeSpec := { name := "fnKnownOk", fn := fun _ => fun
  | [d] => { results := [.lit (.bool false)], args := [d] }
  | _ => none }
def FnKnownOkWrongFalsely : Prop := fnKnownOkRow.holds Try.pinned (OpenSpec.ofChange fnKnownOkWrong)

/-- 'laws.FnAgreesOk': WHATEVER THE INPUT: true; the input reads as it did. -/
def fnAgreesOkSpec : ChangeSpec := { name := "fnAgreesOk", fn := fun _ => fun
  | [d] => { results := [.lit (.bool true)], args := [d] }
  | _ => none }
def fnAgreesOkRow : OpenClaim := { program := "ytadlmpjlkfbnfaa", sum := "f6660bfc45421ec115b2df46a5e9b26c58899b07237a9aa1ab92f639fe346adf", func := "loop.example/checksinorder/laws.FnAgreesOk", spec := "fnAgreesOk", apart := false }
def FnAgreesOkSaid : Prop := fnAgreesOkRow.holds Try.pinned (OpenSpec.ofChange fnAgreesOkSpec)

/-- ITS FALSE NEIGHBOUR: 'it returns false'. Refute it at one input. -/
def fnAgreesOkWrong : ChangeSpec := { name := "fnAgreesOk", fn := fun _ => fun
  | [d] => { results := [.lit (.bool false)], args := [d] }
  | _ => none }
def FnAgreesOkWrongFalsely : Prop := fnAgreesOkRow.holds Try.pinned (OpenSpec.ofChange fnAgreesOkWrong)

/-- 'laws.FnWeightWhere': WHATEVER THE INPUT: true; the input reads as it did. -/
def fnWeightWhereSpec : ChangeSpec := { name := "fnWeightWhere", fn := fun _ => fun
  | [d] => { results := [.lit (.bool true)], args := [d] }
  | _ => none }
def fnWeightWhereRow : OpenClaim := { program := "ytadlmpjlkfbnfaa", sum := "f6660bfc45421ec115b2df46a5e9b26c58899b07237a9aa1ab92f639fe346adf", func := "loop.example/checksinorder/laws.FnWeightWhere", spec := "fnWeightWhere", apart := false }
def FnWeightWhereSaid : Prop := fnWeightWhereRow.holds Try.pinned (OpenSpec.ofChange fnWeightWhereSpec)

/-- ITS FALSE NEIGHBOUR: 'it returns false'. Refute it at one input. -/
def fnWeightWhereWrong : ChangeSpec := { name := "fnWeightWhere", fn := fun _ => fun
  | [d] => { results := [.lit (.bool false)], args := [d] }
  | _ => none }
def FnWeightWhereWrongFalsely : Prop := fnWeightWhereRow.holds Try.pinned (OpenSpec.ofChange fnWeightWhereWrong)

/-- 'laws.FnCostOf': WHATEVER THE INPUT: true; the input reads as it did. -/
def fnCostOfSpec : ChangeSpec := { name := "fnCostOf", fn := fun _ => fun
  | [d] => { results := [.lit (.bool true)], args := [d] }
  | _ => none }
def fnCostOfRow : OpenClaim := { program := "ytadlmpjlkfbnfaa", sum := "f6660bfc45421ec115b2df46a5e9b26c58899b07237a9aa1ab92f639fe346adf", func := "loop.example/checksinorder/laws.FnCostOf", spec := "fnCostOf", apart := false }
def FnCostOfSaid : Prop := fnCostOfRow.holds Try.pinned (OpenSpec.ofChange fnCostOfSpec)

/-- ITS FALSE NEIGHBOUR: 'it returns false'. Refute it at one input. -/
def fnCostOfWrong : ChangeSpec := { name := "fnCostOf", fn := fun _ => fun
  | [d] => { results := [.lit (.bool false)], args := [d] }
  | _ => none }
def FnCostOfWrongFalsely : Prop := fnCostOfRow.holds Try.pinned (OpenSpec.ofChange fnCostOfWrong)

/-- 'laws.FnLikeliestState': WHATEVER THE INPUT: true; the input reads as it did. -/
def fnLikeliestStateSpec : ChangeSpec := { name := "fnLikeliestState", fn := fun _ => fun
  | [d] => { results := [.lit (.bool true)], args := [d] }
  | _ => none }
def fnLikeliestStateRow : OpenClaim := { program := "ytadlmpjlkfbnfaa", sum := "f6660bfc45421ec115b2df46a5e9b26c58899b07237a9aa1ab92f639fe346adf", func := "loop.example/checksinorder/laws.FnLikeliestState", spec := "fnLikeliestState", apart := false }
def FnLikeliestStateSaid : Prop := fnLikeliestStateRow.holds Try.pinned (OpenSpec.ofChange fnLikeliestStateSpec)

/-- ITS FALSE NEIGHBOUR: 'it returns false'. Refute it at one input. -/
def fnLikeliestStateWrong : ChangeSpec := { name := "fnLikeliestState", fn := fun _ => fun
  | [d] => { results := [.lit (.bool false)], args := [d] }
  | _ => none }
def FnLikeliestStateWrongFalsely : Prop := fnLikeliestStateRow.holds Try.pinned (OpenSpec.ofChange fnLikeliestStateWrong)

/-- 'laws.FnWhereParts': WHATEVER THE INPUT: true; the input reads as it did. -/
def fnWherePartsSpec : ChangeSpec := { name := "fnWhereParts", fn := fun _ => fun
  | [d] => { results := [.lit (.bool true)], args := [d] }
  | _ => none }
def fnWherePartsRow : OpenClaim := { program := "ytadlmpjlkfbnfaa", sum := "f6660bfc45421ec115b2df46a5e9b26c58899b07237a9aa1ab92f639fe346adf", func := "loop.example/checksinorder/laws.FnWhereParts", spec := "fnWhereParts", apart := false }
def FnWherePartsSaid : Prop := fnWherePartsRow.holds Try.pinned (OpenSpec.ofChange fnWherePartsSpec)

/-- ITS FALSE NEIGHBOUR: 'it returns false'. Refute it at one input. -/
def fnWherePartsWrong : ChangeSpec := { name := "fnWhereParts", fn := fun _ => fun
  | [d] => { results := [.lit (.bool false)], args := [d] }
  | _ => none }
def FnWherePartsWrongFalsely : Prop := fnWherePartsRow.holds Try.pinned (OpenSpec.ofChange fnWherePartsWrong)

/-- 'laws.FnExactTestsOk': WHATEVER THE INPUT: true; the input reads as it did. -/
def fnExactTestsOkSpec : ChangeSpec := { name := "fnExactTestsOk", fn := fun _ => fun
  | [d] => { results := [.lit (.bool true)], args := [d] }
  | _ => none }
def fnExactTestsOkRow : OpenClaim := { program := "ytadlmpjlkfbnfaa", sum := "f6660bfc45421ec115b2df46a5e9b26c58899b07237a9aa1ab92f639fe346adf", func := "loop.example/checksinorder/laws.FnExactTestsOk", spec := "fnExactTestsOk", apart := false }
def FnExactTestsOkSaid : Prop := fnExactTestsOkRow.holds Try.pinned (OpenSpec.ofChange fnExactTestsOkSpec)

/-- ITS FALSE NEIGHBOUR: 'it returns false'. Refute it at one input. -/
def fnExactTestsOkWrong : ChangeSpec := { name := "fnExactTestsOk", fn := fun _ => fun
  | [d] => { results := [.lit (.bool false)], args := [d] }
  | _ => none }
def FnExactTestsOkWrongFalsely : Prop := fnExactTestsOkRow.holds Try.pinned (OpenSpec.ofChange fnExactTestsOkWrong)

/-- 'laws.FnExactStateOk': WHATEVER THE INPUT: true; the input reads as it did. -/
def fnExactStateOkSpec : ChangeSpec := { name := "fnExactStateOk", fn := fun _ => fun
  | [d1, d2] => { results := [.lit (.bool true)], args := [d1, d2] }
  | _ => none }
def fnExactStateOkRow : OpenClaim := { program := "ytadlmpjlkfbnfaa", sum := "f6660bfc45421ec115b2df46a5e9b26c58899b07237a9aa1ab92f639fe346adf", func := "loop.example/checksinorder/laws.FnExactStateOk", spec := "fnExactStateOk", apart := false }
def FnExactStateOkSaid : Prop := fnExactStateOkRow.holds Try.pinned (OpenSpec.ofChange fnExactStateOkSpec)

/-- ITS FALSE NEIGHBOUR: 'it returns false'. Refute it at one input. -/
def fnExactStateOkWrong : ChangeSpec := { name := "fnExactStateOk", fn := fun _ => fun
  | [d1, d2] => { results := [.lit (.bool false)], args := [d1, d2] }
  | _ => none }
def FnExactStateOkWrongFalsely : Prop := fnExactStateOkRow.holds Try.pinned (OpenSpec.ofChange fnExactStateOkWrong)

/- THE SECOND FORM. 'bulk': how many values and letters a reading holds, each counted each time it is reached (what is shared counts as often as it is met; a slice's spare places count too). A statement '..UptoSaid' is the law's where the arguments, and the package variables that the reading takes, are together of bulk at most 1048576: NARROWER than '..Said'. Prove '..Said' where nothing that the law and all that it calls make is longer than what came in: it says more and counts as full. Else prove '..UptoSaid'. A law counts once. -/
mutual
def uptoBulk {H : Type} : DataW H → Nat
  | .lit (.string bytes) => bytes.length + 1
  | .lit _ => 1
  | .nil => 1
  | .ptr d => uptoBulk d + 1
  | .slice elems spare => uptoBulkAll elems + uptoBulkAll spare + 1
  | .agg parts => uptoBulkAll parts + 1
  | .iface _ d => uptoBulk d + 1
  | .map entries => uptoBulkEntries entries + 1
  | .held _ => 1
def uptoBulkAll {H : Type} : List (DataW H) → Nat
  | [] => 0
  | d :: r => uptoBulk d + uptoBulkAll r
def uptoBulkEntries {H : Type} : List (Lit × DataW H) → Nat
  | [] => 0
  | x :: r => uptoBulkEntry x + uptoBulkEntries r
def uptoBulkEntry {H : Type} : Lit × DataW H → Nat
  | (.string bytes, d) => bytes.length + uptoBulk d + 1
  | (_, d) => uptoBulk d + 1
 end
def uptoSmall : (H : Type) → List (DataW H) → Bool := fun _ ds => decide (uptoBulkAll ds ≤ 1048576)
def OpenSpec.upto (s : _root_.Go.ChangeSpec) : _root_.Go.OpenSpec := { _root_.Go.OpenSpec.ofChange s with cond := some uptoSmall }

/-- 'laws.FnTestsOk', WHERE WHAT IT READS IS OF BULK AT MOST 1048576: true; the input reads as it did. -/
def fnTestsOkUptoRow : OpenClaim := { program := "ytadlmpjlkfbnfaa", sum := "f6660bfc45421ec115b2df46a5e9b26c58899b07237a9aa1ab92f639fe346adf", func := "loop.example/checksinorder/laws.FnTestsOk", spec := "fnTestsOk", apart := false, narrowed := true }
def FnTestsOkUptoSaid : Prop := fnTestsOkUptoRow.holds Try.pinned (OpenSpec.upto fnTestsOkSpec)

/-- 'laws.FnStateOk', WHERE WHAT IT READS IS OF BULK AT MOST 1048576: true; the input reads as it did. -/
def fnStateOkUptoRow : OpenClaim := { program := "ytadlmpjlkfbnfaa", sum := "f6660bfc45421ec115b2df46a5e9b26c58899b07237a9aa1ab92f639fe346adf", func := "loop.example/checksinorder/laws.FnStateOk", spec := "fnStateOk", apart := false, narrowed := true }
def FnStateOkUptoSaid : Prop := fnStateOkUptoRow.holds Try.pinned (OpenSpec.upto fnStateOkSpec)

/-- 'laws.FnWeightOf', WHERE WHAT IT READS IS OF BULK AT MOST 1048576: true; the input reads as it did. -/
def fnWeightOfUptoRow : OpenClaim := { program := "ytadlmpjlkfbnfaa", sum := "f6660bfc45421ec115b2df46a5e9b26c58899b07237a9aa1ab92f639fe346adf", func := "loop.example/checksinorder/laws.FnWeightOf", spec := "fnWeightOf", apart := false, narrowed := true }
def FnWeightOfUptoSaid : Prop := fnWeightOfUptoRow.holds Try.pinned (OpenSpec.upto fnWeightOfSpec)

/-- 'laws.FnOtherTests', WHERE WHAT IT READS IS OF BULK AT MOST 1048576: true; the input reads as it did. -/
def fnOtherTestsUptoRow : OpenClaim := { program := "ytadlmpjlkfbnfaa", sum := "f6660bfc45421ec115b2df46a5e9b26c58899b07237a9aa1ab92f639fe346adf", func := "loop.example/checksinorder/laws.FnOtherTests", spec := "fnOtherTests", apart := false, narrowed := true }
def FnOtherTestsUptoSaid : Prop := fnOtherTestsUptoRow.holds Try.pinned (OpenSpec.upto fnOtherTestsSpec)

/-- 'laws.FnKnownOk', WHERE WHAT IT READS IS OF BULK AT MOST 1048576: true; the input reads as it did. -/
def fnKnownOkUptoRow : OpenClaim := { program := "ytadlmpjlkfbnfaa", sum := "f6660bfc45421ec115b2df46a5e9b26c58899b07237a9aa1ab92f639fe346adf", func := "loop.example/checksinorder/laws.FnKnownOk", spec := "fnKnownOk", apart := false, narrowed := true }
def FnKnownOkUptoSaid : Prop := fnKnownOkUptoRow.holds Try.pinned (OpenSpec.upto fnKnownOkSpec)

/-- 'laws.FnAgreesOk', WHERE WHAT IT READS IS OF BULK AT MOST 1048576: true; the input reads as it did. -/
def fnAgreesOkUptoRow : OpenClaim := { program := "ytadlmpjlkfbnfaa", sum := "f6660bfc45421ec115b2df46a5e9b26c58899b07237a9aa1ab92f639fe346adf", func := "loop.example/checksinorder/laws.FnAgreesOk", spec := "fnAgreesOk", apart := false, narrowed := true }
def FnAgreesOkUptoSaid : Prop := fnAgreesOkUptoRow.holds Try.pinned (OpenSpec.upto fnAgreesOkSpec)

/-- 'laws.FnWeightWhere', WHERE WHAT IT READS IS OF BULK AT MOST 1048576: true; the input reads as it did. -/
def fnWeightWhereUptoRow : OpenClaim := { program := "ytadlmpjlkfbnfaa", sum := "f6660bfc45421ec115b2df46a5e9b26c58899b07237a9aa1ab92f639fe346adf", func := "loop.example/checksinorder/laws.FnWeightWhere", spec := "fnWeightWhere", apart := false, narrowed := true }
def FnWeightWhereUptoSaid : Prop := fnWeightWhereUptoRow.holds Try.pinned (OpenSpec.upto fnWeightWhereSpec)

/-- 'laws.FnCostOf', WHERE WHAT IT READS IS OF BULK AT MOST 1048576: true; the input reads as it did. -/
def fnCostOfUptoRow : OpenClaim := { program := "ytadlmpjlkfbnfaa", sum := "f6660bfc45421ec115b2df46a5e9b26c58899b07237a9aa1ab92f639fe346adf", func := "loop.example/checksinorder/laws.FnCostOf", spec := "fnCostOf", apart := false, narrowed := true }
def FnCostOfUptoSaid : Prop := fnCostOfUptoRow.holds Try.pinned (OpenSpec.upto fnCostOfSpec)

/-- 'laws.FnLikeliestState', WHERE WHAT IT READS IS OF BULK AT MOST 1048576: true; the input reads as it did. -/
def fnLikeliestStateUptoRow : OpenClaim := { program := "ytadlmpjlkfbnfaa", sum := "f6660bfc45421ec115b2df46a5e9b26c58899b07237a9aa1ab92f639fe346adf", func := "loop.example/checksinorder/laws.FnLikeliestState", spec := "fnLikeliestState", apart := false, narrowed := true }
def FnLikeliestStateUptoSaid : Prop := fnLikeliestStateUptoRow.holds Try.pinned (OpenSpec.upto fnLikeliestStateSpec)

/-- 'laws.FnWhereParts', WHERE WHAT IT READS IS OF BULK AT MOST 1048576: true; the input reads as it did. -/
def fnWherePartsUptoRow : OpenClaim := { program := "ytadlmpjlkfbnfaa", sum := "f6660bfc45421ec115b2df46a5e9b26c58899b07237a9aa1ab92f639fe346adf", func := "loop.example/checksinorder/laws.FnWhereParts", spec := "fnWhereParts", apart := false, narrowed := true }
def FnWherePartsUptoSaid : Prop := fnWherePartsUptoRow.holds Try.pinned (OpenSpec.upto fnWherePartsSpec)

/-- 'laws.FnExactTestsOk', WHERE WHAT IT READS IS OF BULK AT MOST 1048576: true; the input reads as it did. -/
def fnExactTestsOkUptoRow : OpenClaim := { program := "ytadlmpjlkfbnfaa", sum := "f6660bfc45421ec115b2df46a5e9b26c58899b07237a9aa1ab92f639fe346adf", func := "loop.example/checksinorder/laws.FnExactTestsOk", spec := "fnExactTestsOk", apart := false, narrowed := true }
def FnExactTestsOkUptoSaid : Prop := fnExactTestsOkUptoRow.holds Try.pinned (OpenSpec.upto fnExactTestsOkSpec)

/-- 'laws.FnExactStateOk', WHERE WHAT IT READS IS OF BULK AT MOST 1048576: true; the input reads as it did. -/
def fnExactStateOkUptoRow : OpenClaim := { program := "ytadlmpjlkfbnfaa", sum := "f6660bfc45421ec115b2df46a5e9b26c58899b07237a9aa1ab92f639fe346adf", func := "loop.example/checksinorder/laws.FnExactStateOk", spec := "fnExactStateOk", apart := false, narrowed := true }
def FnExactStateOkUptoSaid : Prop := fnExactStateOkUptoRow.holds Try.pinned (OpenSpec.upto fnExactStateOkSpec)

end Rows
end Go.Proofs.Ytadlmpjlkfbnfaa
