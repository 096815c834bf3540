/-
  No cell of these rows narrows 'for every input' (looked for: loops, veiled, ifaces, maps, wideKeys, modest, calm, conditions, laid).
  DERIVED. THE GIVEN ROWS OF THIS SEAT. 5 by the template 'for every input the law returns true; each argument reads behind the call as it read before'; 0 by the template 'total and deterministic' (their statements: YtffghabijlfpeaaTotals.lean).
  GIVEN WITH THE SEED: the statements are not yours to turn. If you find one false, say at which input.
  Laid BY PROGRAM, IN A SANDBOX (cutbox-rows.mjs): the forced cells as the released guide's own fill.sh prints them over the translation 0daae9a699a62767… (all of the seat's roots in one cut). By AI agents, Wed Nov 11 2026. No macro, syntax, notation, axiom, sorry.
-/
import Derived.Test.YtffghabijlfpeaaChecked
import GoSem.Claim
import GoSem.ClaimJoined
import GoSem.ClaimMapViews
import Derived.JoinedTies
import Derived.KernelRfl
namespace Go.Proofs.Ytffghabijlfpeaa
/- THE CELL 'sum', in the pinned program and in every row, IS THE sha256 OF THE DUMP (.gsa) THAT YtffghabijlfpeaaProg.lean LOADS. Nothing in Lean hashes anything: it is a label: what it is worth is what the hold of that sum in a sandbox is worth. -/
noncomputable def Try.pinned : Pinned := { name := "ytffghabijlfpeaa", sum := "0daae9a699a62767db0828ff2e98d21c6bfb305831b14a0c3eb9f1af9bd4774d", checked := Try.checked }
namespace Rows
def none {H : Type} : Left H := { results := [], args := [] }

/-- 'laws.FnExactGroupTerm': WHATEVER THE INPUT: true; the input reads as it did. -/
def fnExactGroupTermSpec : ChangeSpec := { name := "fnExactGroupTerm", fn := fun _ => fun
  | [d1, d2] => { results := [.lit (.bool true)], args := [d1, d2] }
  | _ => none }
def fnExactGroupTermRow : OpenClaim := { program := "ytffghabijlfpeaa", sum := "0daae9a699a62767db0828ff2e98d21c6bfb305831b14a0c3eb9f1af9bd4774d", func := "loop.example/checksinorder/laws.FnExactGroupTerm", spec := "fnExactGroupTerm", apart := false }
def FnExactGroupTermSaid : Prop := fnExactGroupTermRow.holds Try.pinned (OpenSpec.ofChange fnExactGroupTermSpec)

/-- ITS FALSE NEIGHBOUR: 'it returns false'. Refute it at one input. -/
def fnExactGroupTermWrong : ChangeSpec := { name := "fnExactGroupTerm", fn := fun _ => fun
  | [d1, d2] => { results := [.lit (.bool false)], args := [d1, d2] }
  | _ => none }
def FnExactGroupTermWrongFalsely : Prop := fnExactGroupTermRow.holds Try.pinned (OpenSpec.ofChange fnExactGroupTermWrong)

/-- 'laws.FnExactSortedGroups': WHATEVER THE INPUT: true; the input reads as it did. -/
def fnExactSortedGroupsSpec : ChangeSpec := { name := "fnExactSortedGroups", fn := fun _ => fun
  | [d1, d2] => { results := [.lit (.bool true)], args := [d1, d2] }
  | _ => none }
def fnExactSortedGroupsRow : OpenClaim := { program := "ytffghabijlfpeaa", sum := "0daae9a699a62767db0828ff2e98d21c6bfb305831b14a0c3eb9f1af9bd4774d", func := "loop.example/checksinorder/laws.FnExactSortedGroups", spec := "fnExactSortedGroups", inPlace := ["slices.overlaps[int]", "slices.overlaps[loop.example/checksinorder/impl.askedGroup]"], unfollowed := true, recurses := true, apart := false }
def FnExactSortedGroupsSaid : Prop := fnExactSortedGroupsRow.holds Try.pinned (OpenSpec.ofChange fnExactSortedGroupsSpec)

/-- ITS FALSE NEIGHBOUR: 'it returns false'. Refute it at one input. -/
def fnExactSortedGroupsWrong : ChangeSpec := { name := "fnExactSortedGroups", fn := fun _ => fun
  | [d1, d2] => { results := [.lit (.bool false)], args := [d1, d2] }
  | _ => none }
def FnExactSortedGroupsWrongFalsely : Prop := fnExactSortedGroupsRow.holds Try.pinned (OpenSpec.ofChange fnExactSortedGroupsWrong)

/-- 'laws.FnExactChainOrder': WHATEVER THE INPUT: true; the input reads as it did. -/
def fnExactChainOrderSpec : ChangeSpec := { name := "fnExactChainOrder", fn := fun _ => fun
  | [d1, d2] => { results := [.lit (.bool true)], args := [d1, d2] }
  | _ => none }
def fnExactChainOrderRow : OpenClaim := { program := "ytffghabijlfpeaa", sum := "0daae9a699a62767db0828ff2e98d21c6bfb305831b14a0c3eb9f1af9bd4774d", func := "loop.example/checksinorder/laws.FnExactChainOrder", spec := "fnExactChainOrder", apart := false }
def FnExactChainOrderSaid : Prop := fnExactChainOrderRow.holds Try.pinned (OpenSpec.ofChange fnExactChainOrderSpec)

/-- ITS FALSE NEIGHBOUR: 'it returns false'. Refute it at one input. -/
def fnExactChainOrderWrong : ChangeSpec := { name := "fnExactChainOrder", fn := fun _ => fun
  | [d1, d2] => { results := [.lit (.bool false)], args := [d1, d2] }
  | _ => none }
def FnExactChainOrderWrongFalsely : Prop := fnExactChainOrderRow.holds Try.pinned (OpenSpec.ofChange fnExactChainOrderWrong)

/-- 'laws.FnExactBestRounds': WHATEVER THE INPUT: true; the input reads as it did. -/
def fnExactBestRoundsSpec : ChangeSpec := { name := "fnExactBestRounds", fn := fun _ => fun
  | [d1, d2] => { results := [.lit (.bool true)], args := [d1, d2] }
  | _ => none }
def fnExactBestRoundsRow : OpenClaim := { program := "ytffghabijlfpeaa", sum := "0daae9a699a62767db0828ff2e98d21c6bfb305831b14a0c3eb9f1af9bd4774d", func := "loop.example/checksinorder/laws.FnExactBestRounds", spec := "fnExactBestRounds", recurses := true, apart := false }
def FnExactBestRoundsSaid : Prop := fnExactBestRoundsRow.holds Try.pinned (OpenSpec.ofChange fnExactBestRoundsSpec)

/-- ITS FALSE NEIGHBOUR: 'it returns false'. Refute it at one input. -/
def fnExactBestRoundsWrong : ChangeSpec := { name := "fnExactBestRounds", fn := fun _ => fun
  | [d1, d2] => { results := [.lit (.bool false)], args := [d1, d2] }
  | _ => none }
def FnExactBestRoundsWrongFalsely : Prop := fnExactBestRoundsRow.holds Try.pinned (OpenSpec.ofChange fnExactBestRoundsWrong)

/-- 'laws.FnExactJoinedRounds': WHATEVER THE INPUT: true; the input reads as it did. -/
def fnExactJoinedRoundsSpec : ChangeSpec := { name := "fnExactJoinedRounds", fn := fun _ => fun
  | [d1, d2, d3] => { results := [.lit (.bool true)], args := [d1, d2, d3] }
  | _ => none }
def fnExactJoinedRoundsRow : OpenClaim := { program := "ytffghabijlfpeaa", sum := "0daae9a699a62767db0828ff2e98d21c6bfb305831b14a0c3eb9f1af9bd4774d", func := "loop.example/checksinorder/laws.FnExactJoinedRounds", spec := "fnExactJoinedRounds", apart := false }
def FnExactJoinedRoundsSaid : Prop := fnExactJoinedRoundsRow.holds Try.pinned (OpenSpec.ofChange fnExactJoinedRoundsSpec)

/-- ITS FALSE NEIGHBOUR: 'it returns false'. Refute it at one input. -/
def fnExactJoinedRoundsWrong : ChangeSpec := { name := "fnExactJoinedRounds", fn := fun _ => fun
  | [d1, d2, d3] => { results := [.lit (.bool false)], args := [d1, d2, d3] }
  | _ => none }
def FnExactJoinedRoundsWrongFalsely : Prop := fnExactJoinedRoundsRow.holds Try.pinned (OpenSpec.ofChange fnExactJoinedRoundsWrong)

/- THE SECOND FORM. 'bulk': how many values and letters a reading holds, each counted each time it is reached (what is shared counts as often as it is met; a slice's spare places count too). A statement '..UptoSaid' is the law's where the arguments, and the package variables that the reading takes, are together of bulk at most 1048576: NARROWER than '..Said'. Prove '..Said' where nothing that the law and all that it calls make is longer than what came in: it says more and counts as full. Else prove '..UptoSaid'. A law counts once. -/
mutual
def uptoBulk {H : Type} : DataW H → Nat
  | .lit (.string bytes) => bytes.length + 1
  | .lit _ => 1
  | .nil => 1
  | .ptr d => uptoBulk d + 1
  | .slice elems spare => uptoBulkAll elems + uptoBulkAll spare + 1
  | .agg parts => uptoBulkAll parts + 1
  | .iface _ d => uptoBulk d + 1
  | .map entries => uptoBulkEntries entries + 1
  | .held _ => 1
def uptoBulkAll {H : Type} : List (DataW H) → Nat
  | [] => 0
  | d :: r => uptoBulk d + uptoBulkAll r
def uptoBulkEntries {H : Type} : List (Lit × DataW H) → Nat
  | [] => 0
  | x :: r => uptoBulkEntry x + uptoBulkEntries r
def uptoBulkEntry {H : Type} : Lit × DataW H → Nat
  | (.string bytes, d) => bytes.length + uptoBulk d + 1
  | (_, d) => uptoBulk d + 1
 end
def uptoSmall : (H : Type) → List (DataW H) → Bool := fun _ ds => decide (uptoBulkAll ds ≤ 1048576)
def OpenSpec.upto (s : _root_.Go.ChangeSpec) : _root_.Go.OpenSpec := { _root_.Go.OpenSpec.ofChange s with cond := some uptoSmall }

/-- 'laws.FnExactGroupTerm', WHERE WHAT IT READS IS OF BULK AT MOST 1048576: true; the input reads as it did. -/
def fnExactGroupTermUptoRow : OpenClaim := { program := "ytffghabijlfpeaa", sum := "0daae9a699a62767db0828ff2e98d21c6bfb305831b14a0c3eb9f1af9bd4774d", func := "loop.example/checksinorder/laws.FnExactGroupTerm", spec := "fnExactGroupTerm", apart := false, narrowed := true }
def FnExactGroupTermUptoSaid : Prop := fnExactGroupTermUptoRow.holds Try.pinned (OpenSpec.upto fnExactGroupTermSpec)

/-- 'laws.FnExactSortedGroups', WHERE WHAT IT READS IS OF BULK AT MOST 1048576: true; the input reads as it did. -/
def fnExactSortedGroupsUptoRow : OpenClaim := { program := "ytffghabijlfpeaa", sum := "0daae9a699a62767db0828ff2e98d21c6bfb305831b14a0c3eb9f1af9bd4774d", func := "loop.example/checksinorder/laws.FnExactSortedGroups", spec := "fnExactSortedGroups", inPlace := ["slices.overlaps[int]", "slices.overlaps[loop.example/checksinorder/impl.askedGroup]"], unfollowed := true, recurses := true, apart := false, narrowed := true }
def FnExactSortedGroupsUptoSaid : Prop := fnExactSortedGroupsUptoRow.holds Try.pinned (OpenSpec.upto fnExactSortedGroupsSpec)

/-- 'laws.FnExactChainOrder', WHERE WHAT IT READS IS OF BULK AT MOST 1048576: true; the input reads as it did. -/
def fnExactChainOrderUptoRow : OpenClaim := { program := "ytffghabijlfpeaa", sum := "0daae9a699a62767db0828ff2e98d21c6bfb305831b14a0c3eb9f1af9bd4774d", func := "loop.example/checksinorder/laws.FnExactChainOrder", spec := "fnExactChainOrder", apart := false, narrowed := true }
def FnExactChainOrderUptoSaid : Prop := fnExactChainOrderUptoRow.holds Try.pinned (OpenSpec.upto fnExactChainOrderSpec)

/-- 'laws.FnExactBestRounds', WHERE WHAT IT READS IS OF BULK AT MOST 1048576: true; the input reads as it did. -/
def fnExactBestRoundsUptoRow : OpenClaim := { program := "ytffghabijlfpeaa", sum := "0daae9a699a62767db0828ff2e98d21c6bfb305831b14a0c3eb9f1af9bd4774d", func := "loop.example/checksinorder/laws.FnExactBestRounds", spec := "fnExactBestRounds", recurses := true, apart := false, narrowed := true }
def FnExactBestRoundsUptoSaid : Prop := fnExactBestRoundsUptoRow.holds Try.pinned (OpenSpec.upto fnExactBestRoundsSpec)

/-- 'laws.FnExactJoinedRounds', WHERE WHAT IT READS IS OF BULK AT MOST 1048576: true; the input reads as it did. -/
def fnExactJoinedRoundsUptoRow : OpenClaim := { program := "ytffghabijlfpeaa", sum := "0daae9a699a62767db0828ff2e98d21c6bfb305831b14a0c3eb9f1af9bd4774d", func := "loop.example/checksinorder/laws.FnExactJoinedRounds", spec := "fnExactJoinedRounds", apart := false, narrowed := true }
def FnExactJoinedRoundsUptoSaid : Prop := fnExactJoinedRoundsUptoRow.holds Try.pinned (OpenSpec.upto fnExactJoinedRoundsSpec)

end Rows
end Go.Proofs.Ytffghabijlfpeaa
