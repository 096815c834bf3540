/-
  No cell of these rows narrows 'for every input' (looked for: loops, veiled, ifaces, maps, wideKeys, modest, calm, conditions, laid).
  DERIVED. THE GIVEN ROWS OF THIS SEAT. 3 by the template 'for every input the law returns true; each argument reads behind the call as it read before'; 0 by the template 'total and deterministic' (their statements: YthadcdlggmahfaaTotals.lean).
  GIVEN WITH THE SEED: the statements are not yours to turn. If you find one false, say at which input.
  Laid BY PROGRAM, IN A SANDBOX (cutbox-rows.mjs): the forced cells as the released guide's own fill.sh prints them over the translation d040f512a954eae4… (all of the seat's roots in one cut). By AI agents, Wed Nov 11 2026. No macro, syntax, notation, axiom, sorry.
-/
import Derived.Test.YthadcdlggmahfaaChecked
import GoSem.Claim
import GoSem.ClaimJoined
import GoSem.ClaimMapViews
import Derived.JoinedTies
import Derived.KernelRfl
namespace Go.Proofs.Ythadcdlggmahfaa
/- THE CELL 'sum', in the pinned program and in every row, IS THE sha256 OF THE DUMP (.gsa) THAT YthadcdlggmahfaaProg.lean LOADS. Nothing in Lean hashes anything: it is a label: what it is worth is what the hold of that sum in a sandbox is worth. -/
noncomputable def Try.pinned : Pinned := { name := "ythadcdlggmahfaa", sum := "d040f512a954eae4ec5b17e62847e137085d41eaddb8b9eb52d65696e66fe06c", checked := Try.checked }
namespace Rows
def none {H : Type} : Left H := { results := [], args := [] }

/-- 'laws.FnGroupsOk': WHATEVER THE INPUT: true; the input reads as it did. -/
def fnGroupsOkSpec : ChangeSpec := { name := "fnGroupsOk", fn := fun _ => fun
  | [d] => { results := [.lit (.bool true)], args := [d] }
  | _ => none }
def fnGroupsOkRow : OpenClaim := { program := "ythadcdlggmahfaa", sum := "d040f512a954eae4ec5b17e62847e137085d41eaddb8b9eb52d65696e66fe06c", func := "loop.example/checksinorder/laws.FnGroupsOk", spec := "fnGroupsOk", apart := false }
def FnGroupsOkSaid : Prop := fnGroupsOkRow.holds Try.pinned (OpenSpec.ofChange fnGroupsOkSpec)

/-- ITS FALSE NEIGHBOUR: 'it returns false'. Refute it at one input. -/
def fnGroupsOkWrong : ChangeSpec := { name := "fnGroupsOk", fn := fun _ => fun
  | [d] => { results := [.lit (.bool false)], args := [d] }
  | _ => none }
def FnGroupsOkWrongFalsely : Prop := fnGroupsOkRow.holds Try.pinned (OpenSpec.ofChange fnGroupsOkWrong)

/-- 'laws.FnGroupCost': WHATEVER THE INPUT: true; the input reads as it did. -/
def fnGroupCostSpec : ChangeSpec := { name := "fnGroupCost", fn := fun _ => fun
  | [d] => { results := [.lit (.bool true)], args := [d] }
  | _ => none }
def fnGroupCostRow : OpenClaim := { program := "ythadcdlggmahfaa", sum := "d040f512a954eae4ec5b17e62847e137085d41eaddb8b9eb52d65696e66fe06c", func := "loop.example/checksinorder/laws.FnGroupCost", spec := "fnGroupCost", inPlace := ["slices.overlaps[int]"], unfollowed := true, recurses := true, apart := false }
def FnGroupCostSaid : Prop := fnGroupCostRow.holds Try.pinned (OpenSpec.ofChange fnGroupCostSpec)

/-- ITS FALSE NEIGHBOUR: 'it returns false'. Refute it at one input. -/
def fnGroupCostWrong : ChangeSpec := { name := "fnGroupCost", fn := fun _ => fun
  | [d] => { results := [.lit (.bool false)], args := [d] }
  | _ => none }
def FnGroupCostWrongFalsely : Prop := fnGroupCostRow.holds Try.pinned (OpenSpec.ofChange fnGroupCostWrong)

/-- 'laws.FnSortedGroups': WHATEVER THE INPUT: true; the input reads as it did. -/
def fnSortedGroupsSpec : ChangeSpec := { name := "fnSortedGroups", fn := fun _ => fun
  | [d] => { results := [.lit (.bool true)], args := [d] }
  | _ => none }
def fnSortedGroupsRow : OpenClaim := { program := "ythadcdlggmahfaa", sum := "d040f512a954eae4ec5b17e62847e137085d41eaddb8b9eb52d65696e66fe06c", func := "loop.example/checksinorder/laws.FnSortedGroups", spec := "fnSortedGroups", inPlace := ["slices.overlaps[int]", "slices.overlaps[loop.example/checksinorder/impl.askedGroup]"], unfollowed := true, recurses := true, apart := false }
def FnSortedGroupsSaid : Prop := fnSortedGroupsRow.holds Try.pinned (OpenSpec.ofChange fnSortedGroupsSpec)

/-- ITS FALSE NEIGHBOUR: 'it returns false'. Refute it at one input. -/
def fnSortedGroupsWrong : ChangeSpec := { name := "fnSortedGroups", fn := fun _ => fun
  | [d] => { results := [.lit (.bool false)], args := [d] }
  | _ => none }
def FnSortedGroupsWrongFalsely : Prop := fnSortedGroupsRow.holds Try.pinned (OpenSpec.ofChange fnSortedGroupsWrong)

/- THE SECOND FORM. 'bulk': how many values and letters a reading holds, each counted each time it is reached (what is shared counts as often as it is met; a slice's spare places count too). A statement '..UptoSaid' is the law's where the arguments, and the package variables that the reading takes, are together of bulk at most 1048576: NARROWER than '..Said'. Prove '..Said' where nothing that the law and all that it calls make is longer than what came in: it says more and counts as full. Else prove '..UptoSaid'. A law counts once. -/
mutual
def uptoBulk {H : Type} : DataW H → Nat
  | .lit (.string bytes) => bytes.length + 1
  | .lit _ => 1
  | .nil => 1
  | .ptr d => uptoBulk d + 1
  | .slice elems spare => uptoBulkAll elems + uptoBulkAll spare + 1
  | .agg parts => uptoBulkAll parts + 1
  | .iface _ d => uptoBulk d + 1
  | .map entries => uptoBulkEntries entries + 1
  | .held _ => 1
def uptoBulkAll {H : Type} : List (DataW H) → Nat
  | [] => 0
  | d :: r => uptoBulk d + uptoBulkAll r
def uptoBulkEntries {H : Type} : List (Lit × DataW H) → Nat
  | [] => 0
  | x :: r => uptoBulkEntry x + uptoBulkEntries r
def uptoBulkEntry {H : Type} : Lit × DataW H → Nat
  | (.string bytes, d) => bytes.length + uptoBulk d + 1
  | (_, d) => uptoBulk d + 1
 end
def uptoSmall : (H : Type) → List (DataW H) → Bool := fun _ ds => decide (uptoBulkAll ds ≤ 1048576)
def OpenSpec.upto (s : _root_.Go.ChangeSpec) : _root_.Go.OpenSpec := { _root_.Go.OpenSpec.ofChange s with cond := some uptoSmall }

/-- 'laws.FnGroupsOk', WHERE WHAT IT READS IS OF BULK AT MOST 1048576: true; the input reads as it did. -/
def fnGroupsOkUptoRow : OpenClaim := { program := "ythadcdlggmahfaa", sum := "d040f512a954eae4ec5b17e62847e137085d41eaddb8b9eb52d65696e66fe06c", func := "loop.example/checksinorder/laws.FnGroupsOk", spec := "fnGroupsOk", apart := false, narrowed := true }
def FnGroupsOkUptoSaid : Prop := fnGroupsOkUptoRow.holds Try.pinned (OpenSpec.upto fnGroupsOkSpec)

/-- 'laws.FnGroupCost', WHERE WHAT IT READS IS OF BULK AT MOST 1048576: true; the input reads as it did. -/
def fnGroupCostUptoRow : OpenClaim := { program := "ythadcdlggmahfaa", sum := "d040f512a954eae4ec5b17e62847e137085d41eaddb8b9eb52d65696e66fe06c", func := "loop.example/checksinorder/laws.FnGroupCost", spec := "fnGroupCost", inPlace := ["slices.overlaps[int]"], unfollowed := true, recurses := true, apart := false, narrowed := true }
def FnGroupCostUptoSaid : Prop := fnGroupCostUptoRow.holds Try.pinned (OpenSpec.upto fnGroupCostSpec)

/-- 'laws.FnSortedGroups', WHERE WHAT IT READS IS OF BULK AT MOST 1048576: true; the input reads as it did. -/
def fnSortedGroupsUptoRow : OpenClaim := { program := "ythadcdlggmahfaa", sum := "d040f512a954eae4ec5b17e62847e137085d41eaddb8b9eb52d65696e66fe06c", func := "loop.example/checksinorder/laws.FnSortedGroups", spec := "fnSortedGroups", inPlace := ["slices.overlaps[int]", "slices.overlaps[loop.example/checksinorder/impl.askedGroup]"], unfollowed := true, recurses := true, apart := false, narrowed := true }
def FnSortedGroupsUptoSaid : Prop := fnSortedGroupsUptoRow.holds Try.pinned (OpenSpec.upto fnSortedGroupsSpec)

end Rows
end Go.Proofs.Ythadcdlggmahfaa
