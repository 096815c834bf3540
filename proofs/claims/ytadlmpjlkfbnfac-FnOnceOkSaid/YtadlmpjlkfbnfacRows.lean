/-
  No cell of these rows narrows 'for every input' (looked for: loops, veiled, ifaces, maps, wideKeys, modest, calm, conditions, laid).
  DERIVED. THE GIVEN ROWS OF THIS SEAT. 7 by the template 'for every input the law returns true; each argument reads behind the call as it read before'; 0 by the template 'total and deterministic' (their statements: YtadlmpjlkfbnfacTotals.lean).
  GIVEN WITH THE SEED: the statements are not yours to turn. If you find one false, say at which input.
  Laid BY PROGRAM, IN A SANDBOX (cutbox-rows.mjs): the forced cells as the released guide's own fill.sh prints them over the translation c8213d555535d1a9… (all of the seat's roots in one cut). By AI agents, Wed Nov 11 2026. No macro, syntax, notation, axiom, sorry.
-/
import Derived.Test.YtadlmpjlkfbnfacChecked
import GoSem.Claim
import GoSem.ClaimJoined
import GoSem.ClaimMapViews
import Derived.JoinedTies
import Derived.KernelRfl
namespace Go.Proofs.Ytadlmpjlkfbnfac
/- THE CELL 'sum', in the pinned program and in every row, IS THE sha256 OF THE DUMP (.gsa) THAT YtadlmpjlkfbnfacProg.lean LOADS. Nothing in Lean hashes anything: it is a label: what it is worth is what the hold of that sum in a sandbox is worth. -/
noncomputable def Try.pinned : Pinned := { name := "ytadlmpjlkfbnfac", sum := "c8213d555535d1a9cb958bbe3bd73bc97ec2562987e5bcbf23497c4879ba849f", checked := Try.checked }
namespace Rows
def none {H : Type} : Left H := { results := [], args := [] }

/-- 'laws.FnExactReadTerm': WHATEVER THE INPUT: true; the input reads as it did. -/
def fnExactReadTermSpec : ChangeSpec := { name := "fnExactReadTerm", fn := fun _ => fun
  | [d1, d2] => { results := [.lit (.bool true)], args := [d1, d2] }
  | _ => none }
def fnExactReadTermRow : OpenClaim := { program := "ytadlmpjlkfbnfac", sum := "c8213d555535d1a9cb958bbe3bd73bc97ec2562987e5bcbf23497c4879ba849f", func := "loop.example/checksinorder/laws.FnExactReadTerm", spec := "fnExactReadTerm", unfollowed := true, recurses := true, apart := false }
def FnExactReadTermSaid : Prop := fnExactReadTermRow.holds Try.pinned (OpenSpec.ofChange fnExactReadTermSpec)

/-- ITS FALSE NEIGHBOUR: 'it returns false'. Refute it at one input. -/
def fnExactReadTermWrong : ChangeSpec := { name := "fnExactReadTerm", fn := fun _ => fun
  | [d1, d2] => { results := [.lit (.bool false)], args := [d1, d2] }
  | _ => none }
def FnExactReadTermWrongFalsely : Prop := fnExactReadTermRow.holds Try.pinned (OpenSpec.ofChange fnExactReadTermWrong)

/-- 'laws.FnTermOk': WHATEVER THE INPUT: true; the input reads as it did. -/
def fnTermOkSpec : ChangeSpec := { name := "fnTermOk", fn := fun _ => fun
  | [d] => { results := [.lit (.bool true)], args := [d] }
  | _ => none }
def fnTermOkRow : OpenClaim := { program := "ytadlmpjlkfbnfac", sum := "c8213d555535d1a9cb958bbe3bd73bc97ec2562987e5bcbf23497c4879ba849f", func := "loop.example/checksinorder/laws.FnTermOk", spec := "fnTermOk", apart := false }
def FnTermOkSaid : Prop := fnTermOkRow.holds Try.pinned (OpenSpec.ofChange fnTermOkSpec)

/-- ITS FALSE NEIGHBOUR: 'it returns false'. Refute it at one input. -/
def fnTermOkWrong : ChangeSpec := { name := "fnTermOk", fn := fun _ => fun
  | [d] => { results := [.lit (.bool false)], args := [d] }
  | _ => none }
def FnTermOkWrongFalsely : Prop := fnTermOkRow.holds Try.pinned (OpenSpec.ofChange fnTermOkWrong)

/-- 'laws.FnLettersOf': WHATEVER THE INPUT: true; the input reads as it did. -/
def fnLettersOfSpec : ChangeSpec := { name := "fnLettersOf", fn := fun _ => fun
  | [d] => { results := [.lit (.bool true)], args := [d] }
  | _ => none }
def fnLettersOfRow : OpenClaim := { program := "ytadlmpjlkfbnfac", sum := "c8213d555535d1a9cb958bbe3bd73bc97ec2562987e5bcbf23497c4879ba849f", func := "loop.example/checksinorder/laws.FnLettersOf", spec := "fnLettersOf", apart := false }
def FnLettersOfSaid : Prop := fnLettersOfRow.holds Try.pinned (OpenSpec.ofChange fnLettersOfSpec)

/-- ITS FALSE NEIGHBOUR: 'it returns false'. Refute it at one input. -/
def fnLettersOfWrong : ChangeSpec := { name := "fnLettersOf", fn := fun _ => fun
  | [d] => { results := [.lit (.bool false)], args := [d] }
  | _ => none }
def FnLettersOfWrongFalsely : Prop := fnLettersOfRow.holds Try.pinned (OpenSpec.ofChange fnLettersOfWrong)

/-- 'laws.FnOnceOk': WHATEVER THE INPUT: true; the input reads as it did. -/
def fnOnceOkSpec : ChangeSpec := { name := "fnOnceOk", fn := fun _ => fun
  | [d] => { results := [.lit (.bool true)], args := [d] }
  | _ => none }
def fnOnceOkRow : OpenClaim := { program := "ytadlmpjlkfbnfac", sum := "c8213d555535d1a9cb958bbe3bd73bc97ec2562987e5bcbf23497c4879ba849f", func := "loop.example/checksinorder/laws.FnOnceOk", spec := "fnOnceOk", apart := false }
def FnOnceOkSaid : Prop := fnOnceOkRow.holds Try.pinned (OpenSpec.ofChange fnOnceOkSpec)

/-- ITS FALSE NEIGHBOUR: 'it returns false'. Refute it at one input. -/
def fnOnceOkWrong : ChangeSpec := { name := "fnOnceOk", fn := fun _ => fun
  | [d] => { results := [.lit (.bool false)], args := [d] }
  | _ => none }
def FnOnceOkWrongFalsely : Prop := fnOnceOkRow.holds Try.pinned (OpenSpec.ofChange fnOnceOkWrong)

/-- 'laws.FnDualTerm': WHATEVER THE INPUT: true; the input reads as it did. -/
def fnDualTermSpec : ChangeSpec := { name := "fnDualTerm", fn := fun _ => fun
  | [d] => { results := [.lit (.bool true)], args := [d] }
  | _ => none }
def fnDualTermRow : OpenClaim := { program := "ytadlmpjlkfbnfac", sum := "c8213d555535d1a9cb958bbe3bd73bc97ec2562987e5bcbf23497c4879ba849f", func := "loop.example/checksinorder/laws.FnDualTerm", spec := "fnDualTerm", apart := false }
def FnDualTermSaid : Prop := fnDualTermRow.holds Try.pinned (OpenSpec.ofChange fnDualTermSpec)

/-- ITS FALSE NEIGHBOUR: 'it returns false'. Refute it at one input. -/
def fnDualTermWrong : ChangeSpec := { name := "fnDualTerm", fn := fun _ => fun
  | [d] => { results := [.lit (.bool false)], args := [d] }
  | _ => none }
def FnDualTermWrongFalsely : Prop := fnDualTermRow.holds Try.pinned (OpenSpec.ofChange fnDualTermWrong)

/-- 'laws.FnTermText': WHATEVER THE INPUT: true; the input reads as it did. -/
def fnTermTextSpec : ChangeSpec := { name := "fnTermText", fn := fun _ => fun
  | [d] => { results := [.lit (.bool true)], args := [d] }
  | _ => none }
def fnTermTextRow : OpenClaim := { program := "ytadlmpjlkfbnfac", sum := "c8213d555535d1a9cb958bbe3bd73bc97ec2562987e5bcbf23497c4879ba849f", func := "loop.example/checksinorder/laws.FnTermText", spec := "fnTermText", unfollowed := true, recurses := true, apart := false }
def FnTermTextSaid : Prop := fnTermTextRow.holds Try.pinned (OpenSpec.ofChange fnTermTextSpec)

/-- ITS FALSE NEIGHBOUR: 'it returns false'. Refute it at one input. -/
def fnTermTextWrong : ChangeSpec := { name := "fnTermText", fn := fun _ => fun
  | [d] => { results := [.lit (.bool false)], args := [d] }
  | _ => none }
def FnTermTextWrongFalsely : Prop := fnTermTextRow.holds Try.pinned (OpenSpec.ofChange fnTermTextWrong)

/-- 'laws.FnReadTerm': WHATEVER THE INPUT: true; the input reads as it did. -/
def fnReadTermSpec : ChangeSpec := { name := "fnReadTerm", fn := fun _ => fun
  | [d] => { results := [.lit (.bool true)], args := [d] }
  | _ => none }
def fnReadTermRow : OpenClaim := { program := "ytadlmpjlkfbnfac", sum := "c8213d555535d1a9cb958bbe3bd73bc97ec2562987e5bcbf23497c4879ba849f", func := "loop.example/checksinorder/laws.FnReadTerm", spec := "fnReadTerm", unfollowed := true, recurses := true, apart := false }
def FnReadTermSaid : Prop := fnReadTermRow.holds Try.pinned (OpenSpec.ofChange fnReadTermSpec)

/-- ITS FALSE NEIGHBOUR: 'it returns false'. Refute it at one input. -/
def fnReadTermWrong : ChangeSpec := { name := "fnReadTerm", fn := fun _ => fun
  | [d] => { results := [.lit (.bool false)], args := [d] }
  | _ => none }
def FnReadTermWrongFalsely : Prop := fnReadTermRow.holds Try.pinned (OpenSpec.ofChange fnReadTermWrong)

/- THE SECOND FORM. 'bulk': how many values and letters a reading holds, each counted each time it is reached (what is shared counts as often as it is met; a slice's spare places count too). A statement '..UptoSaid' is the law's where the arguments, and the package variables that the reading takes, are together of bulk at most 1048576: NARROWER than '..Said'. Prove '..Said' where nothing that the law and all that it calls make is longer than what came in: it says more and counts as full. Else prove '..UptoSaid'. A law counts once. -/
mutual
def uptoBulk {H : Type} : DataW H → Nat
  | .lit (.string bytes) => bytes.length + 1
  | .lit _ => 1
  | .nil => 1
  | .ptr d => uptoBulk d + 1
  | .slice elems spare => uptoBulkAll elems + uptoBulkAll spare + 1
  | .agg parts => uptoBulkAll parts + 1
  | .iface _ d => uptoBulk d + 1
  | .map entries => uptoBulkEntries entries + 1
  | .held _ => 1
def uptoBulkAll {H : Type} : List (DataW H) → Nat
  | [] => 0
  | d :: r => uptoBulk d + uptoBulkAll r
def uptoBulkEntries {H : Type} : List (Lit × DataW H) → Nat
  | [] => 0
  | x :: r => uptoBulkEntry x + uptoBulkEntries r
def uptoBulkEntry {H : Type} : Lit × DataW H → Nat
  | (.string bytes, d) => bytes.length + uptoBulk d + 1
  | (_, d) => uptoBulk d + 1
 end
def uptoSmall : (H : Type) → List (DataW H) → Bool := fun _ ds => decide (uptoBulkAll ds ≤ 1048576)
def OpenSpec.upto (s : _root_.Go.ChangeSpec) : _root_.Go.OpenSpec := { _root_.Go.OpenSpec.ofChange s with cond := some uptoSmall }

/-- 'laws.FnExactReadTerm', WHERE WHAT IT READS IS OF BULK AT MOST 1048576: true; the input reads as it did. -/
def fnExactReadTermUptoRow : OpenClaim := { program := "ytadlmpjlkfbnfac", sum := "c8213d555535d1a9cb958bbe3bd73bc97ec2562987e5bcbf23497c4879ba849f", func := "loop.example/checksinorder/laws.FnExactReadTerm", spec := "fnExactReadTerm", unfollowed := true, recurses := true, apart := false, narrowed := true }
def FnExactReadTermUptoSaid : Prop := fnExactReadTermUptoRow.holds Try.pinned (OpenSpec.upto fnExactReadTermSpec)

/-- 'laws.FnTermOk', WHERE WHAT IT READS IS OF BULK AT MOST 1048576: true; the input reads as it did. -/
def fnTermOkUptoRow : OpenClaim := { program := "ytadlmpjlkfbnfac", sum := "c8213d555535d1a9cb958bbe3bd73bc97ec2562987e5bcbf23497c4879ba849f", func := "loop.example/checksinorder/laws.FnTermOk", spec := "fnTermOk", apart := false, narrowed := true }
def FnTermOkUptoSaid : Prop := fnTermOkUptoRow.holds Try.pinned (OpenSpec.upto fnTermOkSpec)

/-- 'laws.FnLettersOf', WHERE WHAT IT READS IS OF BULK AT MOST 1048576: true; the input reads as it did. -/
def fnLettersOfUptoRow : OpenClaim := { program := "ytadlmpjlkfbnfac", sum := "c8213d555535d1a9cb958bbe3bd73bc97ec2562987e5bcbf23497c4879ba849f", func := "loop.example/checksinorder/laws.FnLettersOf", spec := "fnLettersOf", apart := false, narrowed := true }
def FnLettersOfUptoSaid : Prop := fnLettersOfUptoRow.holds Try.pinned (OpenSpec.upto fnLettersOfSpec)

/-- 'laws.FnOnceOk', WHERE WHAT IT READS IS OF BULK AT MOST 1048576: true; the input reads as it did. -/
def fnOnceOkUptoRow : OpenClaim := { program := "ytadlmpjlkfbnfac", sum := "c8213d555535d1a9cb958bbe3bd73bc97ec2562987e5bcbf23497c4879ba849f", func := "loop.example/checksinorder/laws.FnOnceOk", spec := "fnOnceOk", apart := false, narrowed := true }
def FnOnceOkUptoSaid : Prop := fnOnceOkUptoRow.holds Try.pinned (OpenSpec.upto fnOnceOkSpec)

/-- 'laws.FnDualTerm', WHERE WHAT IT READS IS OF BULK AT MOST 1048576: true; the input reads as it did. -/
def fnDualTermUptoRow : OpenClaim := { program := "ytadlmpjlkfbnfac", sum := "c8213d555535d1a9cb958bbe3bd73bc97ec2562987e5bcbf23497c4879ba849f", func := "loop.example/checksinorder/laws.FnDualTerm", spec := "fnDualTerm", apart := false, narrowed := true }
def FnDualTermUptoSaid : Prop := fnDualTermUptoRow.holds Try.pinned (OpenSpec.upto fnDualTermSpec)

/-- 'laws.FnTermText', WHERE WHAT IT READS IS OF BULK AT MOST 1048576: true; the input reads as it did. -/
def fnTermTextUptoRow : OpenClaim := { program := "ytadlmpjlkfbnfac", sum := "c8213d555535d1a9cb958bbe3bd73bc97ec2562987e5bcbf23497c4879ba849f", func := "loop.example/checksinorder/laws.FnTermText", spec := "fnTermText", unfollowed := true, recurses := true, apart := false, narrowed := true }
def FnTermTextUptoSaid : Prop := fnTermTextUptoRow.holds Try.pinned (OpenSpec.upto fnTermTextSpec)

/-- 'laws.FnReadTerm', WHERE WHAT IT READS IS OF BULK AT MOST 1048576: true; the input reads as it did. -/
def fnReadTermUptoRow : OpenClaim := { program := "ytadlmpjlkfbnfac", sum := "c8213d555535d1a9cb958bbe3bd73bc97ec2562987e5bcbf23497c4879ba849f", func := "loop.example/checksinorder/laws.FnReadTerm", spec := "fnReadTerm", unfollowed := true, recurses := true, apart := false, narrowed := true }
def FnReadTermUptoSaid : Prop := fnReadTermUptoRow.holds Try.pinned (OpenSpec.upto fnReadTermSpec)

end Rows
end Go.Proofs.Ytadlmpjlkfbnfac
