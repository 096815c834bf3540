/-
  No cell of these rows narrows 'for every input' (looked for: loops, veiled, ifaces, maps, wideKeys, modest, calm, conditions, laid).
  DERIVED. THE GIVEN ROWS OF THIS SEAT. 4 by the template 'for every input the law returns true; each argument reads behind the call as it read before'; 0 by the template 'total and deterministic' (their statements: YtaolcmhkmkgmpaaTotals.lean).
  GIVEN WITH THE SEED: the statements are not yours to turn. If you find one false, say at which input.
  Laid BY PROGRAM, IN A SANDBOX (cutbox-rows.mjs): the forced cells as the released guide's own fill.sh prints them over the translation 593c5a29af33850a… (all of the seat's roots in one cut). By AI agents, Wed Nov 11 2026. No macro, syntax, notation, axiom, sorry.
-/
import Derived.Test.YtaolcmhkmkgmpaaChecked
import GoSem.Claim
import GoSem.ClaimJoined
import GoSem.ClaimMapViews
import Derived.JoinedTies
import Derived.KernelRfl
namespace Go.Proofs.Ytaolcmhkmkgmpaa
/- THE CELL 'sum', in the pinned program and in every row, IS THE sha256 OF THE DUMP (.gsa) THAT YtaolcmhkmkgmpaaProg.lean LOADS. Nothing in Lean hashes anything: it is a label: what it is worth is what the hold of that sum in a sandbox is worth. -/
noncomputable def Try.pinned : Pinned := { name := "ytaolcmhkmkgmpaa", sum := "593c5a29af33850a3ba8f20fa05f16e2e10f21aaf53d5801b6067d0b862e4bad", checked := Try.checked }
namespace Rows
def none {H : Type} : Left H := { results := [], args := [] }

/-- 'laws.FnExactOrderOk': WHATEVER THE INPUT: true; the input reads as it did. -/
def fnExactOrderOkSpec : ChangeSpec := { name := "fnExactOrderOk", fn := fun _ => fun
  | [d1, d2] => { results := [.lit (.bool true)], args := [d1, d2] }
  | _ => none }
def fnExactOrderOkRow : OpenClaim := { program := "ytaolcmhkmkgmpaa", sum := "593c5a29af33850a3ba8f20fa05f16e2e10f21aaf53d5801b6067d0b862e4bad", func := "loop.example/checksinorder/laws.FnExactOrderOk", spec := "fnExactOrderOk", apart := false }
def FnExactOrderOkSaid : Prop := fnExactOrderOkRow.holds Try.pinned (OpenSpec.ofChange fnExactOrderOkSpec)

/-- ITS FALSE NEIGHBOUR: 'it returns false'. Refute it at one input. -/
def fnExactOrderOkWrong : ChangeSpec := { name := "fnExactOrderOk", fn := fun _ => fun
  | [d1, d2] => { results := [.lit (.bool false)], args := [d1, d2] }
  | _ => none }
def FnExactOrderOkWrongFalsely : Prop := fnExactOrderOkRow.holds Try.pinned (OpenSpec.ofChange fnExactOrderOkWrong)

/-- 'laws.FnExactSwappedOrder': WHATEVER THE INPUT: true; the input reads as it did. -/
def fnExactSwappedOrderSpec : ChangeSpec := { name := "fnExactSwappedOrder", fn := fun _ => fun
  | [d1, d2, d3] => { results := [.lit (.bool true)], args := [d1, d2, d3] }
  | _ => none }
def fnExactSwappedOrderRow : OpenClaim := { program := "ytaolcmhkmkgmpaa", sum := "593c5a29af33850a3ba8f20fa05f16e2e10f21aaf53d5801b6067d0b862e4bad", func := "loop.example/checksinorder/laws.FnExactSwappedOrder", spec := "fnExactSwappedOrder", apart := false }
def FnExactSwappedOrderSaid : Prop := fnExactSwappedOrderRow.holds Try.pinned (OpenSpec.ofChange fnExactSwappedOrderSpec)

/-- ITS FALSE NEIGHBOUR: 'it returns false'. Refute it at one input. -/
def fnExactSwappedOrderWrong : ChangeSpec := { name := "fnExactSwappedOrder", fn := fun _ => fun
  | [d1, d2, d3] => { results := [.lit (.bool false)], args := [d1, d2, d3] }
  | _ => none }
def FnExactSwappedOrderWrongFalsely : Prop := fnExactSwappedOrderRow.holds Try.pinned (OpenSpec.ofChange fnExactSwappedOrderWrong)

/-- 'laws.FnOrderOk': WHATEVER THE INPUT: true; the input reads as it did. -/
def fnOrderOkSpec : ChangeSpec := { name := "fnOrderOk", fn := fun _ => fun
  | [d] => { results := [.lit (.bool true)], args := [d] }
  | _ => none }
def fnOrderOkRow : OpenClaim := { program := "ytaolcmhkmkgmpaa", sum := "593c5a29af33850a3ba8f20fa05f16e2e10f21aaf53d5801b6067d0b862e4bad", func := "loop.example/checksinorder/laws.FnOrderOk", spec := "fnOrderOk", apart := false }
def FnOrderOkSaid : Prop := fnOrderOkRow.holds Try.pinned (OpenSpec.ofChange fnOrderOkSpec)

/-- ITS FALSE NEIGHBOUR: 'it returns false'. Refute it at one input. -/
def fnOrderOkWrong : ChangeSpec := { name := "fnOrderOk", fn := fun _ => fun
  | [d] => { results := [.lit (.bool false)], args := [d] }
  | _ => none }
def FnOrderOkWrongFalsely : Prop := fnOrderOkRow.holds Try.pinned (OpenSpec.ofChange fnOrderOkWrong)

/-- 'laws.FnSwappedOrder': WHATEVER THE INPUT: true; the input reads as it did. -/
def fnSwappedOrderSpec : ChangeSpec := { name := "fnSwappedOrder", fn := fun _ => fun
  | [d] => { results := [.lit (.bool true)], args := [d] }
  | _ => none }
def fnSwappedOrderRow : OpenClaim := { program := "ytaolcmhkmkgmpaa", sum := "593c5a29af33850a3ba8f20fa05f16e2e10f21aaf53d5801b6067d0b862e4bad", func := "loop.example/checksinorder/laws.FnSwappedOrder", spec := "fnSwappedOrder", apart := false }
def FnSwappedOrderSaid : Prop := fnSwappedOrderRow.holds Try.pinned (OpenSpec.ofChange fnSwappedOrderSpec)

/-- ITS FALSE NEIGHBOUR: 'it returns false'. Refute it at one input. -/
def fnSwappedOrderWrong : ChangeSpec := { name := "fnSwappedOrder", fn := fun _ => fun
  | [d] => { results := [.lit (.bool false)], args := [d] }
  | _ => none }
def FnSwappedOrderWrongFalsely : Prop := fnSwappedOrderRow.holds Try.pinned (OpenSpec.ofChange fnSwappedOrderWrong)

/- THE SECOND FORM. 'bulk': how many values and letters a reading holds, each counted each time it is reached (what is shared counts as often as it is met; a slice's spare places count too). A statement '..UptoSaid' is the law's where the arguments, and the package variables that the reading takes, are together of bulk at most 1048576: NARROWER than '..Said'. Prove '..Said' where nothing that the law and all that it calls make is longer than what came in: it says more and counts as full. Else prove '..UptoSaid'. A law counts once. -/
mutual
def uptoBulk {H : Type} : DataW H → Nat
  | .lit (.string bytes) => bytes.length + 1
  | .lit _ => 1
  | .nil => 1
  | .ptr d => uptoBulk d + 1
  | .slice elems spare => uptoBulkAll elems + uptoBulkAll spare + 1
  | .agg parts => uptoBulkAll parts + 1
  | .iface _ d => uptoBulk d + 1
  | .map entries => uptoBulkEntries entries + 1
  | .held _ => 1
def uptoBulkAll {H : Type} : List (DataW H) → Nat
  | [] => 0
  | d :: r => uptoBulk d + uptoBulkAll r
def uptoBulkEntries {H : Type} : List (Lit × DataW H) → Nat
  | [] => 0
  | x :: r => uptoBulkEntry x + uptoBulkEntries r
def uptoBulkEntry {H : Type} : Lit × DataW H → Nat
  | (.string bytes, d) => bytes.length + uptoBulk d + 1
  | (_, d) => uptoBulk d + 1
 end
def uptoSmall : (H : Type) → List (DataW H) → Bool := fun _ ds => decide (uptoBulkAll ds ≤ 1048576)
def OpenSpec.upto (s : _root_.Go.ChangeSpec) : _root_.Go.OpenSpec := { _root_.Go.OpenSpec.ofChange s with cond := some uptoSmall }

/-- 'laws.FnExactOrderOk', WHERE WHAT IT READS IS OF BULK AT MOST 1048576: true; the input reads as it did. -/
def fnExactOrderOkUptoRow : OpenClaim := { program := "ytaolcmhkmkgmpaa", sum := "593c5a29af33850a3ba8f20fa05f16e2e10f21aaf53d5801b6067d0b862e4bad", func := "loop.example/checksinorder/laws.FnExactOrderOk", spec := "fnExactOrderOk", apart := false, narrowed := true }
def FnExactOrderOkUptoSaid : Prop := fnExactOrderOkUptoRow.holds Try.pinned (OpenSpec.upto fnExactOrderOkSpec)

/-- 'laws.FnExactSwappedOrder', WHERE WHAT IT READS IS OF BULK AT MOST 1048576: true; the input reads as it did. -/
def fnExactSwappedOrderUptoRow : OpenClaim := { program := "ytaolcmhkmkgmpaa", sum := "593c5a29af33850a3ba8f20fa05f16e2e10f21aaf53d5801b6067d0b862e4bad", func := "loop.example/checksinorder/laws.FnExactSwappedOrder", spec := "fnExactSwappedOrder", apart := false, narrowed := true }
def FnExactSwappedOrderUptoSaid : Prop := fnExactSwappedOrderUptoRow.holds Try.pinned (OpenSpec.upto fnExactSwappedOrderSpec)

/-- 'laws.FnOrderOk', WHERE WHAT IT READS IS OF BULK AT MOST 1048576: true; the input reads as it did. -/
def fnOrderOkUptoRow : OpenClaim := { program := "ytaolcmhkmkgmpaa", sum := "593c5a29af33850a3ba8f20fa05f16e2e10f21aaf53d5801b6067d0b862e4bad", func := "loop.example/checksinorder/laws.FnOrderOk", spec := "fnOrderOk", apart := false, narrowed := true }
def FnOrderOkUptoSaid : Prop := fnOrderOkUptoRow.holds Try.pinned (OpenSpec.upto fnOrderOkSpec)

/-- 'laws.FnSwappedOrder', WHERE WHAT IT READS IS OF BULK AT MOST 1048576: true; the input reads as it did. -/
def fnSwappedOrderUptoRow : OpenClaim := { program := "ytaolcmhkmkgmpaa", sum := "593c5a29af33850a3ba8f20fa05f16e2e10f21aaf53d5801b6067d0b862e4bad", func := "loop.example/checksinorder/laws.FnSwappedOrder", spec := "fnSwappedOrder", apart := false, narrowed := true }
def FnSwappedOrderUptoSaid : Prop := fnSwappedOrderUptoRow.holds Try.pinned (OpenSpec.upto fnSwappedOrderSpec)

end Rows
end Go.Proofs.Ytaolcmhkmkgmpaa
