/-
  No cell of these rows narrows 'for every input' (looked for: loops, veiled, ifaces, maps, wideKeys, modest, calm, conditions, laid).
  DERIVED. THE GIVEN ROWS OF THIS SEAT. 6 by the template 'for every input the law returns true; each argument reads behind the call as it read before'; 0 by the template 'total and deterministic' (their statements: YtjallbfleicfnaaTotals.lean).
  GIVEN WITH THE SEED: the statements are not yours to turn. If you find one false, say at which input.
  Laid BY PROGRAM, IN A SANDBOX (cutbox-rows.mjs): the forced cells as the released guide's own fill.sh prints them over the translation b7990cd79be52881… (all of the seat's roots in one cut). By AI agents, Wed Nov 11 2026. No macro, syntax, notation, axiom, sorry.
-/
import Derived.Test.YtjallbfleicfnaaChecked
import GoSem.Claim
import GoSem.ClaimJoined
import GoSem.ClaimMapViews
import Derived.JoinedTies
import Derived.KernelRfl
namespace Go.Proofs.Ytjallbfleicfnaa
/- THE CELL 'sum', in the pinned program and in every row, IS THE sha256 OF THE DUMP (.gsa) THAT YtjallbfleicfnaaProg.lean LOADS. Nothing in Lean hashes anything: it is a label: what it is worth is what the hold of that sum in a sandbox is worth. -/
noncomputable def Try.pinned : Pinned := { name := "ytjallbfleicfnaa", sum := "b7990cd79be528816fe6de3f847b3e87404fd2f0cac3dec3197a820b3032b0b6", checked := Try.checked }
namespace Rows
def none {H : Type} : Left H := { results := [], args := [] }

/-- 'laws.FnExactOtherTests': WHATEVER THE INPUT: true; the input reads as it did. -/
def fnExactOtherTestsSpec : ChangeSpec := { name := "fnExactOtherTests", fn := fun _ => fun
  | [d] => { results := [.lit (.bool true)], args := [d] }
  | _ => none }
def fnExactOtherTestsRow : OpenClaim := { program := "ytjallbfleicfnaa", sum := "b7990cd79be528816fe6de3f847b3e87404fd2f0cac3dec3197a820b3032b0b6", func := "loop.example/checksinorder/laws.FnExactOtherTests", spec := "fnExactOtherTests", apart := false }
def FnExactOtherTestsSaid : Prop := fnExactOtherTestsRow.holds Try.pinned (OpenSpec.ofChange fnExactOtherTestsSpec)

/-- ITS FALSE NEIGHBOUR: 'it returns false'. Refute it at one input. -/
def fnExactOtherTestsWrong : ChangeSpec := { name := "fnExactOtherTests", fn := fun _ => fun
  | [d] => { results := [.lit (.bool false)], args := [d] }
  | _ => none }
def FnExactOtherTestsWrongFalsely : Prop := fnExactOtherTestsRow.holds Try.pinned (OpenSpec.ofChange fnExactOtherTestsWrong)

/-- 'laws.FnExactDualTerm': WHATEVER THE INPUT: true; the input reads as it did. -/
def fnExactDualTermSpec : ChangeSpec := { name := "fnExactDualTerm", fn := fun _ => fun
  | [d1, d2] => { results := [.lit (.bool true)], args := [d1, d2] }
  | _ => none }
def fnExactDualTermRow : OpenClaim := { program := "ytjallbfleicfnaa", sum := "b7990cd79be528816fe6de3f847b3e87404fd2f0cac3dec3197a820b3032b0b6", func := "loop.example/checksinorder/laws.FnExactDualTerm", spec := "fnExactDualTerm", apart := false }
def FnExactDualTermSaid : Prop := fnExactDualTermRow.holds Try.pinned (OpenSpec.ofChange fnExactDualTermSpec)

/-- ITS FALSE NEIGHBOUR: 'it returns false'. Refute it at one input. -/
def fnExactDualTermWrong : ChangeSpec := { name := "fnExactDualTerm", fn := fun _ => fun
  | [d1, d2] => { results := [.lit (.bool false)], args := [d1, d2] }
  | _ => none }
def FnExactDualTermWrongFalsely : Prop := fnExactDualTermRow.holds Try.pinned (OpenSpec.ofChange fnExactDualTermWrong)

/-- 'laws.FnExactTermText': WHATEVER THE INPUT: true; the input reads as it did. -/
def fnExactTermTextSpec : ChangeSpec := { name := "fnExactTermText", fn := fun _ => fun
  | [d1, d2] => { results := [.lit (.bool true)], args := [d1, d2] }
  | _ => none }
def fnExactTermTextRow : OpenClaim := { program := "ytjallbfleicfnaa", sum := "b7990cd79be528816fe6de3f847b3e87404fd2f0cac3dec3197a820b3032b0b6", func := "loop.example/checksinorder/laws.FnExactTermText", spec := "fnExactTermText", unfollowed := true, recurses := true, apart := false }
def FnExactTermTextSaid : Prop := fnExactTermTextRow.holds Try.pinned (OpenSpec.ofChange fnExactTermTextSpec)

/-- ITS FALSE NEIGHBOUR: 'it returns false'. Refute it at one input. -/
def fnExactTermTextWrong : ChangeSpec := { name := "fnExactTermText", fn := fun _ => fun
  | [d1, d2] => { results := [.lit (.bool false)], args := [d1, d2] }
  | _ => none }
def FnExactTermTextWrongFalsely : Prop := fnExactTermTextRow.holds Try.pinned (OpenSpec.ofChange fnExactTermTextWrong)

/-- 'laws.FnExactReadTerm': WHATEVER THE INPUT: true; the input reads as it did. -/
def fnExactReadTermSpec : ChangeSpec := { name := "fnExactReadTerm", fn := fun _ => fun
  | [d1, d2] => { results := [.lit (.bool true)], args := [d1, d2] }
  | _ => none }
def fnExactReadTermRow : OpenClaim := { program := "ytjallbfleicfnaa", sum := "b7990cd79be528816fe6de3f847b3e87404fd2f0cac3dec3197a820b3032b0b6", func := "loop.example/checksinorder/laws.FnExactReadTerm", spec := "fnExactReadTerm", unfollowed := true, recurses := true, apart := false }
def FnExactReadTermSaid : Prop := fnExactReadTermRow.holds Try.pinned (OpenSpec.ofChange fnExactReadTermSpec)

/-- ITS FALSE NEIGHBOUR: 'it returns false'. Refute it at one input. -/
def fnExactReadTermWrong : ChangeSpec := { name := "fnExactReadTerm", fn := fun _ => fun
  | [d1, d2] => { results := [.lit (.bool false)], args := [d1, d2] }
  | _ => none }
def FnExactReadTermWrongFalsely : Prop := fnExactReadTermRow.holds Try.pinned (OpenSpec.ofChange fnExactReadTermWrong)

/-- 'laws.FnTermText': WHATEVER THE INPUT: true; the input reads as it did. -/
def fnTermTextSpec : ChangeSpec := { name := "fnTermText", fn := fun _ => fun
  | [d] => { results := [.lit (.bool true)], args := [d] }
  | _ => none }
def fnTermTextRow : OpenClaim := { program := "ytjallbfleicfnaa", sum := "b7990cd79be528816fe6de3f847b3e87404fd2f0cac3dec3197a820b3032b0b6", func := "loop.example/checksinorder/laws.FnTermText", spec := "fnTermText", unfollowed := true, recurses := true, apart := false }
def FnTermTextSaid : Prop := fnTermTextRow.holds Try.pinned (OpenSpec.ofChange fnTermTextSpec)

/-- ITS FALSE NEIGHBOUR: 'it returns false'. Refute it at one input. -/
def fnTermTextWrong : ChangeSpec := { name := "fnTermText", fn := fun _ => fun
  | [d] => { results := [.lit (.bool false)], args := [d] }
  | _ => none }
def FnTermTextWrongFalsely : Prop := fnTermTextRow.holds Try.pinned (OpenSpec.ofChange fnTermTextWrong)

/-- 'laws.FnReadTerm': WHATEVER THE INPUT: true; the input reads as it did. -/
def fnReadTermSpec : ChangeSpec := { name := "fnReadTerm", fn := fun _ => fun
  | [d] => { results := [.lit (.bool true)], args := [d] }
  | _ => none }
def fnReadTermRow : OpenClaim := { program := "ytjallbfleicfnaa", sum := "b7990cd79be528816fe6de3f847b3e87404fd2f0cac3dec3197a820b3032b0b6", func := "loop.example/checksinorder/laws.FnReadTerm", spec := "fnReadTerm", unfollowed := true, recurses := true, apart := false }
def FnReadTermSaid : Prop := fnReadTermRow.holds Try.pinned (OpenSpec.ofChange fnReadTermSpec)

/-- ITS FALSE NEIGHBOUR: 'it returns false'. Refute it at one input. -/
def fnReadTermWrong : ChangeSpec := { name := "fnReadTerm", fn := fun _ => fun
  | [d] => { results := [.lit (.bool false)], args := [d] }
  | _ => none }
def FnReadTermWrongFalsely : Prop := fnReadTermRow.holds Try.pinned (OpenSpec.ofChange fnReadTermWrong)

/- THE SECOND FORM. 'bulk': how many values and letters a reading holds, each counted each time it is reached (what is shared counts as often as it is met; a slice's spare places count too). A statement '..UptoSaid' is the law's where the arguments, and the package variables that the reading takes, are together of bulk at most 1048576: NARROWER than '..Said'. Prove '..Said' where nothing that the law and all that it calls make is longer than what came in: it says more and counts as full. Else prove '..UptoSaid'. A law counts once. -/
mutual
def uptoBulk {H : Type} : DataW H → Nat
  | .lit (.string bytes) => bytes.length + 1
  | .lit _ => 1
  | .nil => 1
  | .ptr d => uptoBulk d + 1
  | .slice elems spare => uptoBulkAll elems + uptoBulkAll spare + 1
  | .agg parts => uptoBulkAll parts + 1
  | .iface _ d => uptoBulk d + 1
  | .map entries => uptoBulkEntries entries + 1
  | .held _ => 1
def uptoBulkAll {H : Type} : List (DataW H) → Nat
  | [] => 0
  | d :: r => uptoBulk d + uptoBulkAll r
def uptoBulkEntries {H : Type} : List (Lit × DataW H) → Nat
  | [] => 0
  | x :: r => uptoBulkEntry x + uptoBulkEntries r
def uptoBulkEntry {H : Type} : Lit × DataW H → Nat
  | (.string bytes, d) => bytes.length + uptoBulk d + 1
  | (_, d) => uptoBulk d + 1
 end
def uptoSmall : (H : Type) → List (DataW H) → Bool := fun _ ds => decide (uptoBulkAll ds ≤ 1048576)
def OpenSpec.upto (s : _root_.Go.ChangeSpec) : _root_.Go.OpenSpec := { _root_.Go.OpenSpec.ofChange s with cond := some uptoSmall }

/-- 'laws.FnExactOtherTests', WHERE WHAT IT READS IS OF BULK AT MOST 1048576: true; the input reads as it did. -/
def fnExactOtherTestsUptoRow : OpenClaim := { program := "ytjallbfleicfnaa", sum := "b7990cd79be528816fe6de3f847b3e87404fd2f0cac3dec3197a820b3032b0b6", func := "loop.example/checksinorder/laws.FnExactOtherTests", spec := "fnExactOtherTests", apart := false, narrowed := true }
def FnExactOtherTestsUptoSaid : Prop := fnExactOtherTestsUptoRow.holds Try.pinned (OpenSpec.upto fnExactOtherTestsSpec)

/-- 'laws.FnExactDualTerm', WHERE WHAT IT READS IS OF BULK AT MOST 1048576: true; the input reads as it did. -/
def fnExactDualTermUptoRow : OpenClaim := { program := "ytjallbfleicfnaa", sum := "b7990cd79be528816fe6de3f847b3e87404fd2f0cac3dec3197a820b3032b0b6", func := "loop.example/checksinorder/laws.FnExactDualTerm", spec := "fnExactDualTerm", apart := false, narrowed := true }
def FnExactDualTermUptoSaid : Prop := fnExactDualTermUptoRow.holds Try.pinned (OpenSpec.upto fnExactDualTermSpec)

/-- 'laws.FnExactTermText', WHERE WHAT IT READS IS OF BULK AT MOST 1048576: true; the input reads as it did. -/
def fnExactTermTextUptoRow : OpenClaim := { program := "ytjallbfleicfnaa", sum := "b7990cd79be528816fe6de3f847b3e87404fd2f0cac3dec3197a820b3032b0b6", func := "loop.example/checksinorder/laws.FnExactTermText", spec := "fnExactTermText", unfollowed := true, recurses := true, apart := false, narrowed := true }
def FnExactTermTextUptoSaid : Prop := fnExactTermTextUptoRow.holds Try.pinned (OpenSpec.upto fnExactTermTextSpec)

/-- 'laws.FnExactReadTerm', WHERE WHAT IT READS IS OF BULK AT MOST 1048576: true; the input reads as it did. -/
def fnExactReadTermUptoRow : OpenClaim := { program := "ytjallbfleicfnaa", sum := "b7990cd79be528816fe6de3f847b3e87404fd2f0cac3dec3197a820b3032b0b6", func := "loop.example/checksinorder/laws.FnExactReadTerm", spec := "fnExactReadTerm", unfollowed := true, recurses := true, apart := false, narrowed := true }
def FnExactReadTermUptoSaid : Prop := fnExactReadTermUptoRow.holds Try.pinned (OpenSpec.upto fnExactReadTermSpec)

/-- 'laws.FnTermText', WHERE WHAT IT READS IS OF BULK AT MOST 1048576: true; the input reads as it did. -/
def fnTermTextUptoRow : OpenClaim := { program := "ytjallbfleicfnaa", sum := "b7990cd79be528816fe6de3f847b3e87404fd2f0cac3dec3197a820b3032b0b6", func := "loop.example/checksinorder/laws.FnTermText", spec := "fnTermText", unfollowed := true, recurses := true, apart := false, narrowed := true }
def FnTermTextUptoSaid : Prop := fnTermTextUptoRow.holds Try.pinned (OpenSpec.upto fnTermTextSpec)

/-- 'laws.FnReadTerm', WHERE WHAT IT READS IS OF BULK AT MOST 1048576: true; the input reads as it did. -/
def fnReadTermUptoRow : OpenClaim := { program := "ytjallbfleicfnaa", sum := "b7990cd79be528816fe6de3f847b3e87404fd2f0cac3dec3197a820b3032b0b6", func := "loop.example/checksinorder/laws.FnReadTerm", spec := "fnReadTerm", unfollowed := true, recurses := true, apart := false, narrowed := true }
def FnReadTermUptoSaid : Prop := fnReadTermUptoRow.holds Try.pinned (OpenSpec.upto fnReadTermSpec)

end Rows
end Go.Proofs.Ytjallbfleicfnaa
