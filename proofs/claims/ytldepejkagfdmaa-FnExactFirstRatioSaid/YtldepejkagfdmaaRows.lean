/-
  No cell of these rows narrows 'for every input' (looked for: loops, veiled, ifaces, maps, wideKeys, modest, calm, conditions, laid).
  DERIVED. THE GIVEN ROWS OF THIS SEAT. 11 by the template 'for every input the law returns true; each argument reads behind the call as it read before'; 0 by the template 'total and deterministic' (their statements: YtldepejkagfdmaaTotals.lean).
  GIVEN WITH THE SEED: the statements are not yours to turn. If you find one false, say at which input.
  Laid BY PROGRAM, IN A SANDBOX (cutbox-rows.mjs): the forced cells as the released guide's own fill.sh prints them over the translation f62cd6348ffde590… (all of the seat's roots in one cut). By AI agents, Wed Nov 11 2026. No macro, syntax, notation, axiom, sorry.
-/
import Derived.Test.YtldepejkagfdmaaChecked
import GoSem.Claim
import GoSem.ClaimJoined
import GoSem.ClaimMapViews
import Derived.JoinedTies
import Derived.KernelRfl
namespace Go.Proofs.Ytldepejkagfdmaa
/- THE CELL 'sum', in the pinned program and in every row, IS THE sha256 OF THE DUMP (.gsa) THAT YtldepejkagfdmaaProg.lean LOADS. Nothing in Lean hashes anything: it is a label: what it is worth is what the hold of that sum in a sandbox is worth. -/
noncomputable def Try.pinned : Pinned := { name := "ytldepejkagfdmaa", sum := "f62cd6348ffde59040a51141ee412dd6e4e4b7522f5b7258d2bcb2f99ab0c1e5", checked := Try.checked }
namespace Rows
def none {H : Type} : Left H := { results := [], args := [] }

/-- 'laws.FnExactFirstRatio': WHATEVER THE INPUT: true; the input reads as it did. -/
def fnExactFirstRatioSpec : ChangeSpec := { name := "fnExactFirstRatio", fn := fun _ => fun
  | [d1, d2, d3, d4] => { results := [.lit (.bool true)], args := [d1, d2, d3, d4] }
  | _ => none }
def fnExactFirstRatioRow : OpenClaim := { program := "ytldepejkagfdmaa", sum := "f62cd6348ffde59040a51141ee412dd6e4e4b7522f5b7258d2bcb2f99ab0c1e5", func := "loop.example/checksinorder/laws.FnExactFirstRatio", spec := "fnExactFirstRatio", apart := false }
def FnExactFirstRatioSaid : Prop := fnExactFirstRatioRow.holds Try.pinned (OpenSpec.ofChange fnExactFirstRatioSpec)

/-- ITS FALSE NEIGHBOUR: 'it returns false'. Refute it at one input. -/
def fnExactFirstRatioWrong : ChangeSpec := { name := "fnExactFirstRatio", fn := fun _ => fun
  | [d1, d2, d3, d4] => { results := [.lit (.bool false)], args := [d1, d2, d3, d4] }
  | _ => none }
def FnExactFirstRatioWrongFalsely : Prop := fnExactFirstRatioRow.holds Try.pinned (OpenSpec.ofChange fnExactFirstRatioWrong)

/-- 'laws.FnExactKeepsChains': WHATEVER THE INPUT: true; the input reads as it did. -/
def fnExactKeepsChainsSpec : ChangeSpec := { name := "fnExactKeepsChains", fn := fun _ => fun
  | [d1, d2, d3] => { results := [.lit (.bool true)], args := [d1, d2, d3] }
  | _ => none }
def fnExactKeepsChainsRow : OpenClaim := { program := "ytldepejkagfdmaa", sum := "f62cd6348ffde59040a51141ee412dd6e4e4b7522f5b7258d2bcb2f99ab0c1e5", func := "loop.example/checksinorder/laws.FnExactKeepsChains", spec := "fnExactKeepsChains", unfollowed := true, recurses := true, apart := false }
def FnExactKeepsChainsSaid : Prop := fnExactKeepsChainsRow.holds Try.pinned (OpenSpec.ofChange fnExactKeepsChainsSpec)

/-- ITS FALSE NEIGHBOUR: 'it returns false'. Refute it at one input. -/
def fnExactKeepsChainsWrong : ChangeSpec := { name := "fnExactKeepsChains", fn := fun _ => fun
  | [d1, d2, d3] => { results := [.lit (.bool false)], args := [d1, d2, d3] }
  | _ => none }
def FnExactKeepsChainsWrongFalsely : Prop := fnExactKeepsChainsRow.holds Try.pinned (OpenSpec.ofChange fnExactKeepsChainsWrong)

/-- 'laws.FnExactChainOrder': WHATEVER THE INPUT: true; the input reads as it did. -/
def fnExactChainOrderSpec : ChangeSpec := { name := "fnExactChainOrder", fn := fun _ => fun
  | [d1, d2] => { results := [.lit (.bool true)], args := [d1, d2] }
  | _ => none }
def fnExactChainOrderRow : OpenClaim := { program := "ytldepejkagfdmaa", sum := "f62cd6348ffde59040a51141ee412dd6e4e4b7522f5b7258d2bcb2f99ab0c1e5", func := "loop.example/checksinorder/laws.FnExactChainOrder", spec := "fnExactChainOrder", apart := false }
def FnExactChainOrderSaid : Prop := fnExactChainOrderRow.holds Try.pinned (OpenSpec.ofChange fnExactChainOrderSpec)

/-- ITS FALSE NEIGHBOUR: 'it returns false'. Refute it at one input. -/
def fnExactChainOrderWrong : ChangeSpec := { name := "fnExactChainOrder", fn := fun _ => fun
  | [d1, d2] => { results := [.lit (.bool false)], args := [d1, d2] }
  | _ => none }
def FnExactChainOrderWrongFalsely : Prop := fnExactChainOrderRow.holds Try.pinned (OpenSpec.ofChange fnExactChainOrderWrong)

/-- 'laws.FnExactChainBest': WHATEVER THE INPUT: true; the input reads as it did. -/
def fnExactChainBestSpec : ChangeSpec := { name := "fnExactChainBest", fn := fun _ => fun
  | [d1, d2] => { results := [.lit (.bool true)], args := [d1, d2] }
  | _ => none }
def fnExactChainBestRow : OpenClaim := { program := "ytldepejkagfdmaa", sum := "f62cd6348ffde59040a51141ee412dd6e4e4b7522f5b7258d2bcb2f99ab0c1e5", func := "loop.example/checksinorder/laws.FnExactChainBest", spec := "fnExactChainBest", recurses := true, apart := false }
def FnExactChainBestSaid : Prop := fnExactChainBestRow.holds Try.pinned (OpenSpec.ofChange fnExactChainBestSpec)

/-- ITS FALSE NEIGHBOUR: 'it returns false'. Refute it at one input. -/
def fnExactChainBestWrong : ChangeSpec := { name := "fnExactChainBest", fn := fun _ => fun
  | [d1, d2] => { results := [.lit (.bool false)], args := [d1, d2] }
  | _ => none }
def FnExactChainBestWrongFalsely : Prop := fnExactChainBestRow.holds Try.pinned (OpenSpec.ofChange fnExactChainBestWrong)

/-- 'laws.FnExactGroupTerm': WHATEVER THE INPUT: true; the input reads as it did. -/
def fnExactGroupTermSpec : ChangeSpec := { name := "fnExactGroupTerm", fn := fun _ => fun
  | [d1, d2] => { results := [.lit (.bool true)], args := [d1, d2] }
  | _ => none }
def fnExactGroupTermRow : OpenClaim := { program := "ytldepejkagfdmaa", sum := "f62cd6348ffde59040a51141ee412dd6e4e4b7522f5b7258d2bcb2f99ab0c1e5", func := "loop.example/checksinorder/laws.FnExactGroupTerm", spec := "fnExactGroupTerm", apart := false }
def FnExactGroupTermSaid : Prop := fnExactGroupTermRow.holds Try.pinned (OpenSpec.ofChange fnExactGroupTermSpec)

/-- ITS FALSE NEIGHBOUR: 'it returns false'. Refute it at one input. -/
def fnExactGroupTermWrong : ChangeSpec := { name := "fnExactGroupTerm", fn := fun _ => fun
  | [d1, d2] => { results := [.lit (.bool false)], args := [d1, d2] }
  | _ => none }
def FnExactGroupTermWrongFalsely : Prop := fnExactGroupTermRow.holds Try.pinned (OpenSpec.ofChange fnExactGroupTermWrong)

/-- 'laws.FnExactSortedGroups': WHATEVER THE INPUT: true; the input reads as it did. -/
def fnExactSortedGroupsSpec : ChangeSpec := { name := "fnExactSortedGroups", fn := fun _ => fun
  | [d1, d2] => { results := [.lit (.bool true)], args := [d1, d2] }
  | _ => none }
def fnExactSortedGroupsRow : OpenClaim := { program := "ytldepejkagfdmaa", sum := "f62cd6348ffde59040a51141ee412dd6e4e4b7522f5b7258d2bcb2f99ab0c1e5", func := "loop.example/checksinorder/laws.FnExactSortedGroups", spec := "fnExactSortedGroups", inPlace := ["slices.overlaps[int]", "slices.overlaps[loop.example/checksinorder/impl.askedGroup]"], unfollowed := true, recurses := true, apart := false }
def FnExactSortedGroupsSaid : Prop := fnExactSortedGroupsRow.holds Try.pinned (OpenSpec.ofChange fnExactSortedGroupsSpec)

/-- ITS FALSE NEIGHBOUR: 'it returns false'. Refute it at one input. -/
def fnExactSortedGroupsWrong : ChangeSpec := { name := "fnExactSortedGroups", fn := fun _ => fun
  | [d1, d2] => { results := [.lit (.bool false)], args := [d1, d2] }
  | _ => none }
def FnExactSortedGroupsWrongFalsely : Prop := fnExactSortedGroupsRow.holds Try.pinned (OpenSpec.ofChange fnExactSortedGroupsWrong)

/-- 'laws.FnFirstRatio': WHATEVER THE INPUT: true; the input reads as it did. -/
def fnFirstRatioSpec : ChangeSpec := { name := "fnFirstRatio", fn := fun _ => fun
  | [d] => { results := [.lit (.bool true)], args := [d] }
  | _ => none }
def fnFirstRatioRow : OpenClaim := { program := "ytldepejkagfdmaa", sum := "f62cd6348ffde59040a51141ee412dd6e4e4b7522f5b7258d2bcb2f99ab0c1e5", func := "loop.example/checksinorder/laws.FnFirstRatio", spec := "fnFirstRatio", apart := false }
def FnFirstRatioSaid : Prop := fnFirstRatioRow.holds Try.pinned (OpenSpec.ofChange fnFirstRatioSpec)

/-- ITS FALSE NEIGHBOUR: 'it returns false'. Refute it at one input. -/
def fnFirstRatioWrong : ChangeSpec := { name := "fnFirstRatio", fn := fun _ => fun
  | [d] => { results := [.lit (.bool false)], args := [d] }
  | _ => none }
def FnFirstRatioWrongFalsely : Prop := fnFirstRatioRow.holds Try.pinned (OpenSpec.ofChange fnFirstRatioWrong)

/-- 'laws.FnKeepsChains': WHATEVER THE INPUT: true; the input reads as it did. -/
def fnKeepsChainsSpec : ChangeSpec := { name := "fnKeepsChains", fn := fun _ => fun
  | [d] => { results := [.lit (.bool true)], args := [d] }
  | _ => none }
def fnKeepsChainsRow : OpenClaim := { program := "ytldepejkagfdmaa", sum := "f62cd6348ffde59040a51141ee412dd6e4e4b7522f5b7258d2bcb2f99ab0c1e5", func := "loop.example/checksinorder/laws.FnKeepsChains", spec := "fnKeepsChains", unfollowed := true, recurses := true, apart := false }
def FnKeepsChainsSaid : Prop := fnKeepsChainsRow.holds Try.pinned (OpenSpec.ofChange fnKeepsChainsSpec)

/-- ITS FALSE NEIGHBOUR: 'it returns false'. Refute it at one input. -/
def fnKeepsChainsWrong : ChangeSpec := { name := "fnKeepsChains", fn := fun _ => fun
  | [d] => { results := [.lit (.bool false)], args := [d] }
  | _ => none }
def FnKeepsChainsWrongFalsely : Prop := fnKeepsChainsRow.holds Try.pinned (OpenSpec.ofChange fnKeepsChainsWrong)

/-- 'laws.FnChainOrder': WHATEVER THE INPUT: true; the input reads as it did. -/
def fnChainOrderSpec : ChangeSpec := { name := "fnChainOrder", fn := fun _ => fun
  | [d] => { results := [.lit (.bool true)], args := [d] }
  | _ => none }
def fnChainOrderRow : OpenClaim := { program := "ytldepejkagfdmaa", sum := "f62cd6348ffde59040a51141ee412dd6e4e4b7522f5b7258d2bcb2f99ab0c1e5", func := "loop.example/checksinorder/laws.FnChainOrder", spec := "fnChainOrder", inPlace := ["slices.overlaps[int]"], unfollowed := true, recurses := true, apart := false }
def FnChainOrderSaid : Prop := fnChainOrderRow.holds Try.pinned (OpenSpec.ofChange fnChainOrderSpec)

/-- ITS FALSE NEIGHBOUR: 'it returns false'. Refute it at one input. -/
def fnChainOrderWrong : ChangeSpec := { name := "fnChainOrder", fn := fun _ => fun
  | [d] => { results := [.lit (.bool false)], args := [d] }
  | _ => none }
def FnChainOrderWrongFalsely : Prop := fnChainOrderRow.holds Try.pinned (OpenSpec.ofChange fnChainOrderWrong)

/-- 'laws.FnChainBest': WHATEVER THE INPUT: true; the input reads as it did. -/
def fnChainBestSpec : ChangeSpec := { name := "fnChainBest", fn := fun _ => fun
  | [d] => { results := [.lit (.bool true)], args := [d] }
  | _ => none }
def fnChainBestRow : OpenClaim := { program := "ytldepejkagfdmaa", sum := "f62cd6348ffde59040a51141ee412dd6e4e4b7522f5b7258d2bcb2f99ab0c1e5", func := "loop.example/checksinorder/laws.FnChainBest", spec := "fnChainBest", inPlace := ["slices.overlaps[int]"], unfollowed := true, recurses := true, apart := false }
def FnChainBestSaid : Prop := fnChainBestRow.holds Try.pinned (OpenSpec.ofChange fnChainBestSpec)

/-- ITS FALSE NEIGHBOUR: 'it returns false'. Refute it at one input. -/
def fnChainBestWrong : ChangeSpec := { name := "fnChainBest", fn := fun _ => fun
  | [d] => { results := [.lit (.bool false)], args := [d] }
  | _ => none }
def FnChainBestWrongFalsely : Prop := fnChainBestRow.holds Try.pinned (OpenSpec.ofChange fnChainBestWrong)

/-- 'laws.FnChainJoin': WHATEVER THE INPUT: true; the input reads as it did. -/
def fnChainJoinSpec : ChangeSpec := { name := "fnChainJoin", fn := fun _ => fun
  | [d] => { results := [.lit (.bool true)], args := [d] }
  | _ => none }
def fnChainJoinRow : OpenClaim := { program := "ytldepejkagfdmaa", sum := "f62cd6348ffde59040a51141ee412dd6e4e4b7522f5b7258d2bcb2f99ab0c1e5", func := "loop.example/checksinorder/laws.FnChainJoin", spec := "fnChainJoin", recurses := true, apart := false }
def FnChainJoinSaid : Prop := fnChainJoinRow.holds Try.pinned (OpenSpec.ofChange fnChainJoinSpec)

/-- ITS FALSE NEIGHBOUR: 'it returns false'. Refute it at one input. -/
def fnChainJoinWrong : ChangeSpec := { name := "fnChainJoin", fn := fun _ => fun
  | [d] => { results := [.lit (.bool false)], args := [d] }
  | _ => none }
def FnChainJoinWrongFalsely : Prop := fnChainJoinRow.holds Try.pinned (OpenSpec.ofChange fnChainJoinWrong)

/- THE SECOND FORM. 'bulk': how many values and letters a reading holds, each counted each time it is reached (what is shared counts as often as it is met; a slice's spare places count too). A statement '..UptoSaid' is the law's where the arguments, and the package variables that the reading takes, are together of bulk at most 1048576: NARROWER than '..Said'. Prove '..Said' where nothing that the law and all that it calls make is longer than what came in: it says more and counts as full. Else prove '..UptoSaid'. A law counts once. -/
mutual
def uptoBulk {H : Type} : DataW H → Nat
  | .lit (.string bytes) => bytes.length + 1
  | .lit _ => 1
  | .nil => 1
  | .ptr d => uptoBulk d + 1
  | .slice elems spare => uptoBulkAll elems + uptoBulkAll spare + 1
  | .agg parts => uptoBulkAll parts + 1
  | .iface _ d => uptoBulk d + 1
  | .map entries => uptoBulkEntries entries + 1
  | .held _ => 1
def uptoBulkAll {H : Type} : List (DataW H) → Nat
  | [] => 0
  | d :: r => uptoBulk d + uptoBulkAll r
def uptoBulkEntries {H : Type} : List (Lit × DataW H) → Nat
  | [] => 0
  | x :: r => uptoBulkEntry x + uptoBulkEntries r
def uptoBulkEntry {H : Type} : Lit × DataW H → Nat
  | (.string bytes, d) => bytes.length + uptoBulk d + 1
  | (_, d) => uptoBulk d + 1
 end
def uptoSmall : (H : Type) → List (DataW H) → Bool := fun _ ds => decide (uptoBulkAll ds ≤ 1048576)
def OpenSpec.upto (s : _root_.Go.ChangeSpec) : _root_.Go.OpenSpec := { _root_.Go.OpenSpec.ofChange s with cond := some uptoSmall }

/-- 'laws.FnExactFirstRatio', WHERE WHAT IT READS IS OF BULK AT MOST 1048576: true; the input reads as it did. -/
def fnExactFirstRatioUptoRow : OpenClaim := { program := "ytldepejkagfdmaa", sum := "f62cd6348ffde59040a51141ee412dd6e4e4b7522f5b7258d2bcb2f99ab0c1e5", func := "loop.example/checksinorder/laws.FnExactFirstRatio", spec := "fnExactFirstRatio", apart := false, narrowed := true }
def FnExactFirstRatioUptoSaid : Prop := fnExactFirstRatioUptoRow.holds Try.pinned (OpenSpec.upto fnExactFirstRatioSpec)

/-- 'laws.FnExactKeepsChains', WHERE WHAT IT READS IS OF BULK AT MOST 1048576: true; the input reads as it did. -/
def fnExactKeepsChainsUptoRow : OpenClaim := { program := "ytldepejkagfdmaa", sum := "f62cd6348ffde59040a51141ee412dd6e4e4b7522f5b7258d2bcb2f99ab0c1e5", func := "loop.example/checksinorder/laws.FnExactKeepsChains", spec := "fnExactKeepsChains", unfollowed := true, recurses := true, apart := false, narrowed := true }
def FnExactKeepsChainsUptoSaid : Prop := fnExactKeepsChainsUptoRow.holds Try.pinned (OpenSpec.upto fnExactKeepsChainsSpec)

/-- 'laws.FnExactChainOrder', WHERE WHAT IT READS IS OF BULK AT MOST 1048576: true; the input reads as it did. -/
def fnExactChainOrderUptoRow : OpenClaim := { program := "ytldepejkagfdmaa", sum := "f62cd6348ffde59040a51141ee412dd6e4e4b7522f5b7258d2bcb2f99ab0c1e5", func := "loop.example/checksinorder/laws.FnExactChainOrder", spec := "fnExactChainOrder", apart := false, narrowed := true }
def FnExactChainOrderUptoSaid : Prop := fnExactChainOrderUptoRow.holds Try.pinned (OpenSpec.upto fnExactChainOrderSpec)

/-- 'laws.FnExactChainBest', WHERE WHAT IT READS IS OF BULK AT MOST 1048576: true; the input reads as it did. -/
def fnExactChainBestUptoRow : OpenClaim := { program := "ytldepejkagfdmaa", sum := "f62cd6348ffde59040a51141ee412dd6e4e4b7522f5b7258d2bcb2f99ab0c1e5", func := "loop.example/checksinorder/laws.FnExactChainBest", spec := "fnExactChainBest", recurses := true, apart := false, narrowed := true }
def FnExactChainBestUptoSaid : Prop := fnExactChainBestUptoRow.holds Try.pinned (OpenSpec.upto fnExactChainBestSpec)

/-- 'laws.FnExactGroupTerm', WHERE WHAT IT READS IS OF BULK AT MOST 1048576: true; the input reads as it did. -/
def fnExactGroupTermUptoRow : OpenClaim := { program := "ytldepejkagfdmaa", sum := "f62cd6348ffde59040a51141ee412dd6e4e4b7522f5b7258d2bcb2f99ab0c1e5", func := "loop.example/checksinorder/laws.FnExactGroupTerm", spec := "fnExactGroupTerm", apart := false, narrowed := true }
def FnExactGroupTermUptoSaid : Prop := fnExactGroupTermUptoRow.holds Try.pinned (OpenSpec.upto fnExactGroupTermSpec)

/-- 'laws.FnExactSortedGroups', WHERE WHAT IT READS IS OF BULK AT MOST 1048576: true; the input reads as it did. -/
def fnExactSortedGroupsUptoRow : OpenClaim := { program := "ytldepejkagfdmaa", sum := "f62cd6348ffde59040a51141ee412dd6e4e4b7522f5b7258d2bcb2f99ab0c1e5", func := "loop.example/checksinorder/laws.FnExactSortedGroups", spec := "fnExactSortedGroups", inPlace := ["slices.overlaps[int]", "slices.overlaps[loop.example/checksinorder/impl.askedGroup]"], unfollowed := true, recurses := true, apart := false, narrowed := true }
def FnExactSortedGroupsUptoSaid : Prop := fnExactSortedGroupsUptoRow.holds Try.pinned (OpenSpec.upto fnExactSortedGroupsSpec)

/-- 'laws.FnFirstRatio', WHERE WHAT IT READS IS OF BULK AT MOST 1048576: true; the input reads as it did. -/
def fnFirstRatioUptoRow : OpenClaim := { program := "ytldepejkagfdmaa", sum := "f62cd6348ffde59040a51141ee412dd6e4e4b7522f5b7258d2bcb2f99ab0c1e5", func := "loop.example/checksinorder/laws.FnFirstRatio", spec := "fnFirstRatio", apart := false, narrowed := true }
def FnFirstRatioUptoSaid : Prop := fnFirstRatioUptoRow.holds Try.pinned (OpenSpec.upto fnFirstRatioSpec)

/-- 'laws.FnKeepsChains', WHERE WHAT IT READS IS OF BULK AT MOST 1048576: true; the input reads as it did. -/
def fnKeepsChainsUptoRow : OpenClaim := { program := "ytldepejkagfdmaa", sum := "f62cd6348ffde59040a51141ee412dd6e4e4b7522f5b7258d2bcb2f99ab0c1e5", func := "loop.example/checksinorder/laws.FnKeepsChains", spec := "fnKeepsChains", unfollowed := true, recurses := true, apart := false, narrowed := true }
def FnKeepsChainsUptoSaid : Prop := fnKeepsChainsUptoRow.holds Try.pinned (OpenSpec.upto fnKeepsChainsSpec)

/-- 'laws.FnChainOrder', WHERE WHAT IT READS IS OF BULK AT MOST 1048576: true; the input reads as it did. -/
def fnChainOrderUptoRow : OpenClaim := { program := "ytldepejkagfdmaa", sum := "f62cd6348ffde59040a51141ee412dd6e4e4b7522f5b7258d2bcb2f99ab0c1e5", func := "loop.example/checksinorder/laws.FnChainOrder", spec := "fnChainOrder", inPlace := ["slices.overlaps[int]"], unfollowed := true, recurses := true, apart := false, narrowed := true }
def FnChainOrderUptoSaid : Prop := fnChainOrderUptoRow.holds Try.pinned (OpenSpec.upto fnChainOrderSpec)

/-- 'laws.FnChainBest', WHERE WHAT IT READS IS OF BULK AT MOST 1048576: true; the input reads as it did. -/
def fnChainBestUptoRow : OpenClaim := { program := "ytldepejkagfdmaa", sum := "f62cd6348ffde59040a51141ee412dd6e4e4b7522f5b7258d2bcb2f99ab0c1e5", func := "loop.example/checksinorder/laws.FnChainBest", spec := "fnChainBest", inPlace := ["slices.overlaps[int]"], unfollowed := true, recurses := true, apart := false, narrowed := true }
def FnChainBestUptoSaid : Prop := fnChainBestUptoRow.holds Try.pinned (OpenSpec.upto fnChainBestSpec)

/-- 'laws.FnChainJoin', WHERE WHAT IT READS IS OF BULK AT MOST 1048576: true; the input reads as it did. -/
def fnChainJoinUptoRow : OpenClaim := { program := "ytldepejkagfdmaa", sum := "f62cd6348ffde59040a51141ee412dd6e4e4b7522f5b7258d2bcb2f99ab0c1e5", func := "loop.example/checksinorder/laws.FnChainJoin", spec := "fnChainJoin", recurses := true, apart := false, narrowed := true }
def FnChainJoinUptoSaid : Prop := fnChainJoinUptoRow.holds Try.pinned (OpenSpec.upto fnChainJoinSpec)

end Rows
end Go.Proofs.Ytldepejkagfdmaa
