/-
  No cell of these rows narrows 'for every input' (looked for: loops, veiled, ifaces, maps, wideKeys, modest, calm, conditions, laid).
  DERIVED. THE GIVEN ROWS OF THIS SEAT. 11 by the template 'for every input the law returns true; each argument reads behind the call as it read before'; 0 by the template 'total and deterministic' (their statements: YtkokclaabaepaaaTotals.lean).
  GIVEN WITH THE SEED: the statements are not yours to turn. If you find one false, say at which input.
  Laid BY PROGRAM, IN A SANDBOX (cutbox-rows.mjs): the forced cells as the released guide's own fill.sh prints them over the translation 2418232aa6fed88d… (all of the seat's roots in one cut). By AI agents, Wed Nov 11 2026. No macro, syntax, notation, axiom, sorry.
-/
import Derived.Test.YtkokclaabaepaaaChecked
import GoSem.Claim
import GoSem.ClaimJoined
import GoSem.ClaimMapViews
import Derived.JoinedTies
import Derived.KernelRfl
namespace Go.Proofs.Ytkokclaabaepaaa
/- THE CELL 'sum', in the pinned program and in every row, IS THE sha256 OF THE DUMP (.gsa) THAT YtkokclaabaepaaaProg.lean LOADS. Nothing in Lean hashes anything: it is a label: what it is worth is what the hold of that sum in a sandbox is worth. -/
noncomputable def Try.pinned : Pinned := { name := "ytkokclaabaepaaa", sum := "2418232aa6fed88ddecf15a5ec88b2d27613cb94b4d3a338c035fd586315e554", checked := Try.checked }
namespace Rows
def none {H : Type} : Left H := { results := [], args := [] }

/-- 'laws.FnRoundAverage': WHATEVER THE INPUT: true; the input reads as it did. -/
def fnRoundAverageSpec : ChangeSpec := { name := "fnRoundAverage", fn := fun _ => fun
  | [d] => { results := [.lit (.bool true)], args := [d] }
  | _ => none }
def fnRoundAverageRow : OpenClaim := { program := "ytkokclaabaepaaa", sum := "2418232aa6fed88ddecf15a5ec88b2d27613cb94b4d3a338c035fd586315e554", func := "loop.example/checksinorder/laws.FnRoundAverage", spec := "fnRoundAverage", unfollowed := true, recurses := true, apart := false }
def FnRoundAverageSaid : Prop := fnRoundAverageRow.holds Try.pinned (OpenSpec.ofChange fnRoundAverageSpec)

/-- ITS FALSE NEIGHBOUR: 'it returns false'. Refute it at one input. -/
def fnRoundAverageWrong : ChangeSpec := { name := "fnRoundAverage", fn := fun _ => fun
  | [d] => { results := [.lit (.bool false)], args := [d] }
  | _ => none }
def FnRoundAverageWrongFalsely : Prop := fnRoundAverageRow.holds Try.pinned (OpenSpec.ofChange fnRoundAverageWrong)

/-- 'laws.FnBestRounds': WHATEVER THE INPUT: true; the input reads as it did. -/
def fnBestRoundsSpec : ChangeSpec := { name := "fnBestRounds", fn := fun _ => fun
  | [d1, d2] => { results := [.lit (.bool true)], args := [d1, d2] }
  | _ => none }
def fnBestRoundsRow : OpenClaim := { program := "ytkokclaabaepaaa", sum := "2418232aa6fed88ddecf15a5ec88b2d27613cb94b4d3a338c035fd586315e554", func := "loop.example/checksinorder/laws.FnBestRounds", spec := "fnBestRounds", inPlace := ["slices.overlaps[int]"], unfollowed := true, recurses := true, apart := false }
def FnBestRoundsSaid : Prop := fnBestRoundsRow.holds Try.pinned (OpenSpec.ofChange fnBestRoundsSpec)

/-- ITS FALSE NEIGHBOUR: 'it returns false'. Refute it at one input. -/
def fnBestRoundsWrong : ChangeSpec := { name := "fnBestRounds", fn := fun _ => fun
  | [d1, d2] => { results := [.lit (.bool false)], args := [d1, d2] }
  | _ => none }
def FnBestRoundsWrongFalsely : Prop := fnBestRoundsRow.holds Try.pinned (OpenSpec.ofChange fnBestRoundsWrong)

/-- 'laws.FnJoinedRounds': WHATEVER THE INPUT: true; the input reads as it did. -/
def fnJoinedRoundsSpec : ChangeSpec := { name := "fnJoinedRounds", fn := fun _ => fun
  | [d1, d2] => { results := [.lit (.bool true)], args := [d1, d2] }
  | _ => none }
def fnJoinedRoundsRow : OpenClaim := { program := "ytkokclaabaepaaa", sum := "2418232aa6fed88ddecf15a5ec88b2d27613cb94b4d3a338c035fd586315e554", func := "loop.example/checksinorder/laws.FnJoinedRounds", spec := "fnJoinedRounds", unfollowed := true, recurses := true, apart := false }
def FnJoinedRoundsSaid : Prop := fnJoinedRoundsRow.holds Try.pinned (OpenSpec.ofChange fnJoinedRoundsSpec)

/-- ITS FALSE NEIGHBOUR: 'it returns false'. Refute it at one input. -/
def fnJoinedRoundsWrong : ChangeSpec := { name := "fnJoinedRounds", fn := fun _ => fun
  | [d1, d2] => { results := [.lit (.bool false)], args := [d1, d2] }
  | _ => none }
def FnJoinedRoundsWrongFalsely : Prop := fnJoinedRoundsRow.holds Try.pinned (OpenSpec.ofChange fnJoinedRoundsWrong)

/-- 'laws.FnRoundsFee': WHATEVER THE INPUT: true; the input reads as it did. -/
def fnRoundsFeeSpec : ChangeSpec := { name := "fnRoundsFee", fn := fun _ => fun
  | [d] => { results := [.lit (.bool true)], args := [d] }
  | _ => none }
def fnRoundsFeeRow : OpenClaim := { program := "ytkokclaabaepaaa", sum := "2418232aa6fed88ddecf15a5ec88b2d27613cb94b4d3a338c035fd586315e554", func := "loop.example/checksinorder/laws.FnRoundsFee", spec := "fnRoundsFee", recurses := true, apart := false }
def FnRoundsFeeSaid : Prop := fnRoundsFeeRow.holds Try.pinned (OpenSpec.ofChange fnRoundsFeeSpec)

/-- ITS FALSE NEIGHBOUR: 'it returns false'. Refute it at one input. -/
def fnRoundsFeeWrong : ChangeSpec := { name := "fnRoundsFee", fn := fun _ => fun
  | [d] => { results := [.lit (.bool false)], args := [d] }
  | _ => none }
def FnRoundsFeeWrongFalsely : Prop := fnRoundsFeeRow.holds Try.pinned (OpenSpec.ofChange fnRoundsFeeWrong)

/-- 'laws.FnRoundOrder': WHATEVER THE INPUT: true; the input reads as it did. -/
def fnRoundOrderSpec : ChangeSpec := { name := "fnRoundOrder", fn := fun _ => fun
  | [d] => { results := [.lit (.bool true)], args := [d] }
  | _ => none }
def fnRoundOrderRow : OpenClaim := { program := "ytkokclaabaepaaa", sum := "2418232aa6fed88ddecf15a5ec88b2d27613cb94b4d3a338c035fd586315e554", func := "loop.example/checksinorder/laws.FnRoundOrder", spec := "fnRoundOrder", unfollowed := true, recurses := true, apart := false }
def FnRoundOrderSaid : Prop := fnRoundOrderRow.holds Try.pinned (OpenSpec.ofChange fnRoundOrderSpec)

/-- ITS FALSE NEIGHBOUR: 'it returns false'. Refute it at one input. -/
def fnRoundOrderWrong : ChangeSpec := { name := "fnRoundOrder", fn := fun _ => fun
  | [d] => { results := [.lit (.bool false)], args := [d] }
  | _ => none }
def FnRoundOrderWrongFalsely : Prop := fnRoundOrderRow.holds Try.pinned (OpenSpec.ofChange fnRoundOrderWrong)

/-- 'laws.FnExactRoundAverage': WHATEVER THE INPUT: true; the input reads as it did. -/
def fnExactRoundAverageSpec : ChangeSpec := { name := "fnExactRoundAverage", fn := fun _ => fun
  | [d1, d2, d3] => { results := [.lit (.bool true)], args := [d1, d2, d3] }
  | _ => none }
def fnExactRoundAverageRow : OpenClaim := { program := "ytkokclaabaepaaa", sum := "2418232aa6fed88ddecf15a5ec88b2d27613cb94b4d3a338c035fd586315e554", func := "loop.example/checksinorder/laws.FnExactRoundAverage", spec := "fnExactRoundAverage", unfollowed := true, recurses := true, apart := false }
def FnExactRoundAverageSaid : Prop := fnExactRoundAverageRow.holds Try.pinned (OpenSpec.ofChange fnExactRoundAverageSpec)

/-- ITS FALSE NEIGHBOUR: 'it returns false'. Refute it at one input. -/
def fnExactRoundAverageWrong : ChangeSpec := { name := "fnExactRoundAverage", fn := fun _ => fun
  | [d1, d2, d3] => { results := [.lit (.bool false)], args := [d1, d2, d3] }
  | _ => none }
def FnExactRoundAverageWrongFalsely : Prop := fnExactRoundAverageRow.holds Try.pinned (OpenSpec.ofChange fnExactRoundAverageWrong)

/-- 'laws.FnExactBestRounds': WHATEVER THE INPUT: true; the input reads as it did. -/
def fnExactBestRoundsSpec : ChangeSpec := { name := "fnExactBestRounds", fn := fun _ => fun
  | [d1, d2] => { results := [.lit (.bool true)], args := [d1, d2] }
  | _ => none }
def fnExactBestRoundsRow : OpenClaim := { program := "ytkokclaabaepaaa", sum := "2418232aa6fed88ddecf15a5ec88b2d27613cb94b4d3a338c035fd586315e554", func := "loop.example/checksinorder/laws.FnExactBestRounds", spec := "fnExactBestRounds", recurses := true, apart := false }
def FnExactBestRoundsSaid : Prop := fnExactBestRoundsRow.holds Try.pinned (OpenSpec.ofChange fnExactBestRoundsSpec)

/-- ITS FALSE NEIGHBOUR: 'it returns false'. Refute it at one input. -/
def fnExactBestRoundsWrong : ChangeSpec := { name := "fnExactBestRounds", fn := fun _ => fun
  | [d1, d2] => { results := [.lit (.bool false)], args := [d1, d2] }
  | _ => none }
def FnExactBestRoundsWrongFalsely : Prop := fnExactBestRoundsRow.holds Try.pinned (OpenSpec.ofChange fnExactBestRoundsWrong)

/-- 'laws.FnExactJoinedRounds': WHATEVER THE INPUT: true; the input reads as it did. -/
def fnExactJoinedRoundsSpec : ChangeSpec := { name := "fnExactJoinedRounds", fn := fun _ => fun
  | [d1, d2, d3] => { results := [.lit (.bool true)], args := [d1, d2, d3] }
  | _ => none }
def fnExactJoinedRoundsRow : OpenClaim := { program := "ytkokclaabaepaaa", sum := "2418232aa6fed88ddecf15a5ec88b2d27613cb94b4d3a338c035fd586315e554", func := "loop.example/checksinorder/laws.FnExactJoinedRounds", spec := "fnExactJoinedRounds", apart := false }
def FnExactJoinedRoundsSaid : Prop := fnExactJoinedRoundsRow.holds Try.pinned (OpenSpec.ofChange fnExactJoinedRoundsSpec)

/-- ITS FALSE NEIGHBOUR: 'it returns false'. Refute it at one input. -/
def fnExactJoinedRoundsWrong : ChangeSpec := { name := "fnExactJoinedRounds", fn := fun _ => fun
  | [d1, d2, d3] => { results := [.lit (.bool false)], args := [d1, d2, d3] }
  | _ => none }
def FnExactJoinedRoundsWrongFalsely : Prop := fnExactJoinedRoundsRow.holds Try.pinned (OpenSpec.ofChange fnExactJoinedRoundsWrong)

/-- 'laws.FnExactGroupTerm': WHATEVER THE INPUT: true; the input reads as it did. -/
def fnExactGroupTermSpec : ChangeSpec := { name := "fnExactGroupTerm", fn := fun _ => fun
  | [d1, d2] => { results := [.lit (.bool true)], args := [d1, d2] }
  | _ => none }
def fnExactGroupTermRow : OpenClaim := { program := "ytkokclaabaepaaa", sum := "2418232aa6fed88ddecf15a5ec88b2d27613cb94b4d3a338c035fd586315e554", func := "loop.example/checksinorder/laws.FnExactGroupTerm", spec := "fnExactGroupTerm", apart := false }
def FnExactGroupTermSaid : Prop := fnExactGroupTermRow.holds Try.pinned (OpenSpec.ofChange fnExactGroupTermSpec)

/-- ITS FALSE NEIGHBOUR: 'it returns false'. Refute it at one input. -/
def fnExactGroupTermWrong : ChangeSpec := { name := "fnExactGroupTerm", fn := fun _ => fun
  | [d1, d2] => { results := [.lit (.bool false)], args := [d1, d2] }
  | _ => none }
def FnExactGroupTermWrongFalsely : Prop := fnExactGroupTermRow.holds Try.pinned (OpenSpec.ofChange fnExactGroupTermWrong)

/-- 'laws.FnExactSortedGroups': WHATEVER THE INPUT: true; the input reads as it did. -/
def fnExactSortedGroupsSpec : ChangeSpec := { name := "fnExactSortedGroups", fn := fun _ => fun
  | [d1, d2] => { results := [.lit (.bool true)], args := [d1, d2] }
  | _ => none }
def fnExactSortedGroupsRow : OpenClaim := { program := "ytkokclaabaepaaa", sum := "2418232aa6fed88ddecf15a5ec88b2d27613cb94b4d3a338c035fd586315e554", func := "loop.example/checksinorder/laws.FnExactSortedGroups", spec := "fnExactSortedGroups", inPlace := ["slices.overlaps[int]", "slices.overlaps[loop.example/checksinorder/impl.askedGroup]"], unfollowed := true, recurses := true, apart := false }
def FnExactSortedGroupsSaid : Prop := fnExactSortedGroupsRow.holds Try.pinned (OpenSpec.ofChange fnExactSortedGroupsSpec)

/-- ITS FALSE NEIGHBOUR: 'it returns false'. Refute it at one input. -/
def fnExactSortedGroupsWrong : ChangeSpec := { name := "fnExactSortedGroups", fn := fun _ => fun
  | [d1, d2] => { results := [.lit (.bool false)], args := [d1, d2] }
  | _ => none }
def FnExactSortedGroupsWrongFalsely : Prop := fnExactSortedGroupsRow.holds Try.pinned (OpenSpec.ofChange fnExactSortedGroupsWrong)

/-- 'laws.FnExactChainOrder': WHATEVER THE INPUT: true; the input reads as it did. -/
def fnExactChainOrderSpec : ChangeSpec := { name := "fnExactChainOrder", fn := fun _ => fun
  | [d1, d2] => { results := [.lit (.bool true)], args := [d1, d2] }
  | _ => none }
def fnExactChainOrderRow : OpenClaim := { program := "ytkokclaabaepaaa", sum := "2418232aa6fed88ddecf15a5ec88b2d27613cb94b4d3a338c035fd586315e554", func := "loop.example/checksinorder/laws.FnExactChainOrder", spec := "fnExactChainOrder", apart := false }
def FnExactChainOrderSaid : Prop := fnExactChainOrderRow.holds Try.pinned (OpenSpec.ofChange fnExactChainOrderSpec)

/-- ITS FALSE NEIGHBOUR: 'it returns false'. Refute it at one input. -/
def fnExactChainOrderWrong : ChangeSpec := { name := "fnExactChainOrder", fn := fun _ => fun
  | [d1, d2] => { results := [.lit (.bool false)], args := [d1, d2] }
  | _ => none }
def FnExactChainOrderWrongFalsely : Prop := fnExactChainOrderRow.holds Try.pinned (OpenSpec.ofChange fnExactChainOrderWrong)

/- THE SECOND FORM. 'bulk': how many values and letters a reading holds, each counted each time it is reached (what is shared counts as often as it is met; a slice's spare places count too). A statement '..UptoSaid' is the law's where the arguments, and the package variables that the reading takes, are together of bulk at most 1048576: NARROWER than '..Said'. Prove '..Said' where nothing that the law and all that it calls make is longer than what came in: it says more and counts as full. Else prove '..UptoSaid'. A law counts once. -/
mutual
def uptoBulk {H : Type} : DataW H → Nat
  | .lit (.string bytes) => bytes.length + 1
  | .lit _ => 1
  | .nil => 1
  | .ptr d => uptoBulk d + 1
  | .slice elems spare => uptoBulkAll elems + uptoBulkAll spare + 1
  | .agg parts => uptoBulkAll parts + 1
  | .iface _ d => uptoBulk d + 1
  | .map entries => uptoBulkEntries entries + 1
  | .held _ => 1
def uptoBulkAll {H : Type} : List (DataW H) → Nat
  | [] => 0
  | d :: r => uptoBulk d + uptoBulkAll r
def uptoBulkEntries {H : Type} : List (Lit × DataW H) → Nat
  | [] => 0
  | x :: r => uptoBulkEntry x + uptoBulkEntries r
def uptoBulkEntry {H : Type} : Lit × DataW H → Nat
  | (.string bytes, d) => bytes.length + uptoBulk d + 1
  | (_, d) => uptoBulk d + 1
 end
def uptoSmall : (H : Type) → List (DataW H) → Bool := fun _ ds => decide (uptoBulkAll ds ≤ 1048576)
def OpenSpec.upto (s : _root_.Go.ChangeSpec) : _root_.Go.OpenSpec := { _root_.Go.OpenSpec.ofChange s with cond := some uptoSmall }

/-- 'laws.FnRoundAverage', WHERE WHAT IT READS IS OF BULK AT MOST 1048576: true; the input reads as it did. -/
def fnRoundAverageUptoRow : OpenClaim := { program := "ytkokclaabaepaaa", sum := "2418232aa6fed88ddecf15a5ec88b2d27613cb94b4d3a338c035fd586315e554", func := "loop.example/checksinorder/laws.FnRoundAverage", spec := "fnRoundAverage", unfollowed := true, recurses := true, apart := false, narrowed := true }
def FnRoundAverageUptoSaid : Prop := fnRoundAverageUptoRow.holds Try.pinned (OpenSpec.upto fnRoundAverageSpec)

/-- 'laws.FnBestRounds', WHERE WHAT IT READS IS OF BULK AT MOST 1048576: true; the input reads as it did. -/
def fnBestRoundsUptoRow : OpenClaim := { program := "ytkokclaabaepaaa", sum := "2418232aa6fed88ddecf15a5ec88b2d27613cb94b4d3a338c035fd586315e554", func := "loop.example/checksinorder/laws.FnBestRounds", spec := "fnBestRounds", inPlace := ["slices.overlaps[int]"], unfollowed := true, recurses := true, apart := false, narrowed := true }
def FnBestRoundsUptoSaid : Prop := fnBestRoundsUptoRow.holds Try.pinned (OpenSpec.upto fnBestRoundsSpec)

/-- 'laws.FnJoinedRounds', WHERE WHAT IT READS IS OF BULK AT MOST 1048576: true; the input reads as it did. -/
def fnJoinedRoundsUptoRow : OpenClaim := { program := "ytkokclaabaepaaa", sum := "2418232aa6fed88ddecf15a5ec88b2d27613cb94b4d3a338c035fd586315e554", func := "loop.example/checksinorder/laws.FnJoinedRounds", spec := "fnJoinedRounds", unfollowed := true, recurses := true, apart := false, narrowed := true }
def FnJoinedRoundsUptoSaid : Prop := fnJoinedRoundsUptoRow.holds Try.pinned (OpenSpec.upto fnJoinedRoundsSpec)

/-- 'laws.FnRoundsFee', WHERE WHAT IT READS IS OF BULK AT MOST 1048576: true; the input reads as it did. -/
def fnRoundsFeeUptoRow : OpenClaim := { program := "ytkokclaabaepaaa", sum := "2418232aa6fed88ddecf15a5ec88b2d27613cb94b4d3a338c035fd586315e554", func := "loop.example/checksinorder/laws.FnRoundsFee", spec := "fnRoundsFee", recurses := true, apart := false, narrowed := true }
def FnRoundsFeeUptoSaid : Prop := fnRoundsFeeUptoRow.holds Try.pinned (OpenSpec.upto fnRoundsFeeSpec)

/-- 'laws.FnRoundOrder', WHERE WHAT IT READS IS OF BULK AT MOST 1048576: true; the input reads as it did. -/
def fnRoundOrderUptoRow : OpenClaim := { program := "ytkokclaabaepaaa", sum := "2418232aa6fed88ddecf15a5ec88b2d27613cb94b4d3a338c035fd586315e554", func := "loop.example/checksinorder/laws.FnRoundOrder", spec := "fnRoundOrder", unfollowed := true, recurses := true, apart := false, narrowed := true }
def FnRoundOrderUptoSaid : Prop := fnRoundOrderUptoRow.holds Try.pinned (OpenSpec.upto fnRoundOrderSpec)

/-- 'laws.FnExactRoundAverage', WHERE WHAT IT READS IS OF BULK AT MOST 1048576: true; the input reads as it did. -/
def fnExactRoundAverageUptoRow : OpenClaim := { program := "ytkokclaabaepaaa", sum := "2418232aa6fed88ddecf15a5ec88b2d27613cb94b4d3a338c035fd586315e554", func := "loop.example/checksinorder/laws.FnExactRoundAverage", spec := "fnExactRoundAverage", unfollowed := true, recurses := true, apart := false, narrowed := true }
def FnExactRoundAverageUptoSaid : Prop := fnExactRoundAverageUptoRow.holds Try.pinned (OpenSpec.upto fnExactRoundAverageSpec)

/-- 'laws.FnExactBestRounds', WHERE WHAT IT READS IS OF BULK AT MOST 1048576: true; the input reads as it did. -/
def fnExactBestRoundsUptoRow : OpenClaim := { program := "ytkokclaabaepaaa", sum := "2418232aa6fed88ddecf15a5ec88b2d27613cb94b4d3a338c035fd586315e554", func := "loop.example/checksinorder/laws.FnExactBestRounds", spec := "fnExactBestRounds", recurses := true, apart := false, narrowed := true }
def FnExactBestRoundsUptoSaid : Prop := fnExactBestRoundsUptoRow.holds Try.pinned (OpenSpec.upto fnExactBestRoundsSpec)

/-- 'laws.FnExactJoinedRounds', WHERE WHAT IT READS IS OF BULK AT MOST 1048576: true; the input reads as it did. -/
def fnExactJoinedRoundsUptoRow : OpenClaim := { program := "ytkokclaabaepaaa", sum := "2418232aa6fed88ddecf15a5ec88b2d27613cb94b4d3a338c035fd586315e554", func := "loop.example/checksinorder/laws.FnExactJoinedRounds", spec := "fnExactJoinedRounds", apart := false, narrowed := true }
def FnExactJoinedRoundsUptoSaid : Prop := fnExactJoinedRoundsUptoRow.holds Try.pinned (OpenSpec.upto fnExactJoinedRoundsSpec)

/-- 'laws.FnExactGroupTerm', WHERE WHAT IT READS IS OF BULK AT MOST 1048576: true; the input reads as it did. -/
def fnExactGroupTermUptoRow : OpenClaim := { program := "ytkokclaabaepaaa", sum := "2418232aa6fed88ddecf15a5ec88b2d27613cb94b4d3a338c035fd586315e554", func := "loop.example/checksinorder/laws.FnExactGroupTerm", spec := "fnExactGroupTerm", apart := false, narrowed := true }
def FnExactGroupTermUptoSaid : Prop := fnExactGroupTermUptoRow.holds Try.pinned (OpenSpec.upto fnExactGroupTermSpec)

/-- 'laws.FnExactSortedGroups', WHERE WHAT IT READS IS OF BULK AT MOST 1048576: true; the input reads as it did. -/
def fnExactSortedGroupsUptoRow : OpenClaim := { program := "ytkokclaabaepaaa", sum := "2418232aa6fed88ddecf15a5ec88b2d27613cb94b4d3a338c035fd586315e554", func := "loop.example/checksinorder/laws.FnExactSortedGroups", spec := "fnExactSortedGroups", inPlace := ["slices.overlaps[int]", "slices.overlaps[loop.example/checksinorder/impl.askedGroup]"], unfollowed := true, recurses := true, apart := false, narrowed := true }
def FnExactSortedGroupsUptoSaid : Prop := fnExactSortedGroupsUptoRow.holds Try.pinned (OpenSpec.upto fnExactSortedGroupsSpec)

/-- 'laws.FnExactChainOrder', WHERE WHAT IT READS IS OF BULK AT MOST 1048576: true; the input reads as it did. -/
def fnExactChainOrderUptoRow : OpenClaim := { program := "ytkokclaabaepaaa", sum := "2418232aa6fed88ddecf15a5ec88b2d27613cb94b4d3a338c035fd586315e554", func := "loop.example/checksinorder/laws.FnExactChainOrder", spec := "fnExactChainOrder", apart := false, narrowed := true }
def FnExactChainOrderUptoSaid : Prop := fnExactChainOrderUptoRow.holds Try.pinned (OpenSpec.upto fnExactChainOrderSpec)

end Rows
end Go.Proofs.Ytkokclaabaepaaa
