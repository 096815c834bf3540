/-
  No cell of these rows narrows 'for every input' (looked for: loops, veiled, ifaces, maps, wideKeys, modest, calm, conditions, laid).
  DERIVED. THE GIVEN ROWS OF THIS SEAT. 5 by the template 'for every input the law returns true; each argument reads behind the call as it read before'; 0 by the template 'total and deterministic' (their statements: YtahkmbihhkjebaaTotals.lean).
  GIVEN WITH THE SEED: the statements are not yours to turn. If you find one false, say at which input.
  Laid BY PROGRAM, IN A SANDBOX (cutbox-rows.mjs): the forced cells as the released guide's own fill.sh prints them over the translation 2cedaf0db6144eaf… (all of the seat's roots in one cut). By AI agents, Wed Nov 11 2026. No macro, syntax, notation, axiom, sorry.
-/
import Derived.Test.YtahkmbihhkjebaaChecked
import GoSem.Claim
import GoSem.ClaimJoined
import GoSem.ClaimMapViews
import Derived.JoinedTies
import Derived.KernelRfl
namespace Go.Proofs.Ytahkmbihhkjebaa
/- THE CELL 'sum', in the pinned program and in every row, IS THE sha256 OF THE DUMP (.gsa) THAT YtahkmbihhkjebaaProg.lean LOADS. Nothing in Lean hashes anything: it is a label: what it is worth is what the hold of that sum in a sandbox is worth. -/
noncomputable def Try.pinned : Pinned := { name := "ytahkmbihhkjebaa", sum := "2cedaf0db6144eaf24b28154020b1c533c1cfee0955f4b56f87a3e7f3411339c", checked := Try.checked }
namespace Rows
def none {H : Type} : Left H := { results := [], args := [] }

/-- 'laws.FnExactCountOk': WHATEVER THE INPUT: true; the input reads as it did. -/
def fnExactCountOkSpec : ChangeSpec := { name := "fnExactCountOk", fn := fun _ => fun
  | [d1, d2] => { results := [.lit (.bool true)], args := [d1, d2] }
  | _ => none }
def fnExactCountOkRow : OpenClaim := { program := "ytahkmbihhkjebaa", sum := "2cedaf0db6144eaf24b28154020b1c533c1cfee0955f4b56f87a3e7f3411339c", func := "loop.example/checksinorder/laws.FnExactCountOk", spec := "fnExactCountOk", apart := false }
def FnExactCountOkSaid : Prop := fnExactCountOkRow.holds Try.pinned (OpenSpec.ofChange fnExactCountOkSpec)

/-- ITS FALSE NEIGHBOUR: 'it returns false'. Refute it at one input. -/
def fnExactCountOkWrong : ChangeSpec := { name := "fnExactCountOk", fn := fun _ => fun
  | [d1, d2] => { results := [.lit (.bool false)], args := [d1, d2] }
  | _ => none }
def FnExactCountOkWrongFalsely : Prop := fnExactCountOkRow.holds Try.pinned (OpenSpec.ofChange fnExactCountOkWrong)

/-- 'laws.FnExactCountWeight': WHATEVER THE INPUT: true; the input reads as it did. -/
def fnExactCountWeightSpec : ChangeSpec := { name := "fnExactCountWeight", fn := fun _ => fun
  | [d1, d2] => { results := [.lit (.bool true)], args := [d1, d2] }
  | _ => none }
def fnExactCountWeightRow : OpenClaim := { program := "ytahkmbihhkjebaa", sum := "2cedaf0db6144eaf24b28154020b1c533c1cfee0955f4b56f87a3e7f3411339c", func := "loop.example/checksinorder/laws.FnExactCountWeight", spec := "fnExactCountWeight", apart := false }
def FnExactCountWeightSaid : Prop := fnExactCountWeightRow.holds Try.pinned (OpenSpec.ofChange fnExactCountWeightSpec)

/-- ITS FALSE NEIGHBOUR: 'it returns false'. Refute it at one input. -/
def fnExactCountWeightWrong : ChangeSpec := { name := "fnExactCountWeight", fn := fun _ => fun
  | [d1, d2] => { results := [.lit (.bool false)], args := [d1, d2] }
  | _ => none }
def FnExactCountWeightWrongFalsely : Prop := fnExactCountWeightRow.holds Try.pinned (OpenSpec.ofChange fnExactCountWeightWrong)

/-- 'laws.FnExactCountBest': WHATEVER THE INPUT: true; the input reads as it did. -/
def fnExactCountBestSpec : ChangeSpec := { name := "fnExactCountBest", fn := fun _ => fun
  | [d1, d2] => { results := [.lit (.bool true)], args := [d1, d2] }
  | _ => none }
def fnExactCountBestRow : OpenClaim := { program := "ytahkmbihhkjebaa", sum := "2cedaf0db6144eaf24b28154020b1c533c1cfee0955f4b56f87a3e7f3411339c", func := "loop.example/checksinorder/laws.FnExactCountBest", spec := "fnExactCountBest", unfollowed := true, recurses := true, apart := false }
def FnExactCountBestSaid : Prop := fnExactCountBestRow.holds Try.pinned (OpenSpec.ofChange fnExactCountBestSpec)

/-- ITS FALSE NEIGHBOUR: 'it returns false'. Refute it at one input. -/
def fnExactCountBestWrong : ChangeSpec := { name := "fnExactCountBest", fn := fun _ => fun
  | [d1, d2] => { results := [.lit (.bool false)], args := [d1, d2] }
  | _ => none }
def FnExactCountBestWrongFalsely : Prop := fnExactCountBestRow.holds Try.pinned (OpenSpec.ofChange fnExactCountBestWrong)

/-- 'laws.FnExactGroupTerm': WHATEVER THE INPUT: true; the input reads as it did. -/
def fnExactGroupTermSpec : ChangeSpec := { name := "fnExactGroupTerm", fn := fun _ => fun
  | [d1, d2] => { results := [.lit (.bool true)], args := [d1, d2] }
  | _ => none }
def fnExactGroupTermRow : OpenClaim := { program := "ytahkmbihhkjebaa", sum := "2cedaf0db6144eaf24b28154020b1c533c1cfee0955f4b56f87a3e7f3411339c", func := "loop.example/checksinorder/laws.FnExactGroupTerm", spec := "fnExactGroupTerm", apart := false }
def FnExactGroupTermSaid : Prop := fnExactGroupTermRow.holds Try.pinned (OpenSpec.ofChange fnExactGroupTermSpec)

/-- ITS FALSE NEIGHBOUR: 'it returns false'. Refute it at one input. -/
def fnExactGroupTermWrong : ChangeSpec := { name := "fnExactGroupTerm", fn := fun _ => fun
  | [d1, d2] => { results := [.lit (.bool false)], args := [d1, d2] }
  | _ => none }
def FnExactGroupTermWrongFalsely : Prop := fnExactGroupTermRow.holds Try.pinned (OpenSpec.ofChange fnExactGroupTermWrong)

/-- 'laws.FnExactSortedGroups': WHATEVER THE INPUT: true; the input reads as it did. -/
def fnExactSortedGroupsSpec : ChangeSpec := { name := "fnExactSortedGroups", fn := fun _ => fun
  | [d1, d2] => { results := [.lit (.bool true)], args := [d1, d2] }
  | _ => none }
def fnExactSortedGroupsRow : OpenClaim := { program := "ytahkmbihhkjebaa", sum := "2cedaf0db6144eaf24b28154020b1c533c1cfee0955f4b56f87a3e7f3411339c", func := "loop.example/checksinorder/laws.FnExactSortedGroups", spec := "fnExactSortedGroups", inPlace := ["slices.overlaps[int]", "slices.overlaps[loop.example/checksinorder/impl.askedGroup]"], unfollowed := true, recurses := true, apart := false }
def FnExactSortedGroupsSaid : Prop := fnExactSortedGroupsRow.holds Try.pinned (OpenSpec.ofChange fnExactSortedGroupsSpec)

/-- ITS FALSE NEIGHBOUR: 'it returns false'. Refute it at one input. -/
def fnExactSortedGroupsWrong : ChangeSpec := { name := "fnExactSortedGroups", fn := fun _ => fun
  | [d1, d2] => { results := [.lit (.bool false)], args := [d1, d2] }
  | _ => none }
def FnExactSortedGroupsWrongFalsely : Prop := fnExactSortedGroupsRow.holds Try.pinned (OpenSpec.ofChange fnExactSortedGroupsWrong)

/- THE SECOND FORM. 'bulk': how many values and letters a reading holds, each counted each time it is reached (what is shared counts as often as it is met; a slice's spare places count too). A statement '..UptoSaid' is the law's where the arguments, and the package variables that the reading takes, are together of bulk at most 1048576: NARROWER than '..Said'. Prove '..Said' where nothing that the law and all that it calls make is longer than what came in: it says more and counts as full. Else prove '..UptoSaid'. A law counts once. -/
mutual
def uptoBulk {H : Type} : DataW H → Nat
  | .lit (.string bytes) => bytes.length + 1
  | .lit _ => 1
  | .nil => 1
  | .ptr d => uptoBulk d + 1
  | .slice elems spare => uptoBulkAll elems + uptoBulkAll spare + 1
  | .agg parts => uptoBulkAll parts + 1
  | .iface _ d => uptoBulk d + 1
  | .map entries => uptoBulkEntries entries + 1
  | .held _ => 1
def uptoBulkAll {H : Type} : List (DataW H) → Nat
  | [] => 0
  | d :: r => uptoBulk d + uptoBulkAll r
def uptoBulkEntries {H : Type} : List (Lit × DataW H) → Nat
  | [] => 0
  | x :: r => uptoBulkEntry x + uptoBulkEntries r
def uptoBulkEntry {H : Type} : Lit × DataW H → Nat
  | (.string bytes, d) => bytes.length + uptoBulk d + 1
  | (_, d) => uptoBulk d + 1
 end
def uptoSmall : (H : Type) → List (DataW H) → Bool := fun _ ds => decide (uptoBulkAll ds ≤ 1048576)
def OpenSpec.upto (s : _root_.Go.ChangeSpec) : _root_.Go.OpenSpec := { _root_.Go.OpenSpec.ofChange s with cond := some uptoSmall }

/-- 'laws.FnExactCountOk', WHERE WHAT IT READS IS OF BULK AT MOST 1048576: true; the input reads as it did. -/
def fnExactCountOkUptoRow : OpenClaim := { program := "ytahkmbihhkjebaa", sum := "2cedaf0db6144eaf24b28154020b1c533c1cfee0955f4b56f87a3e7f3411339c", func := "loop.example/checksinorder/laws.FnExactCountOk", spec := "fnExactCountOk", apart := false, narrowed := true }
def FnExactCountOkUptoSaid : Prop := fnExactCountOkUptoRow.holds Try.pinned (OpenSpec.upto fnExactCountOkSpec)

/-- 'laws.FnExactCountWeight', WHERE WHAT IT READS IS OF BULK AT MOST 1048576: true; the input reads as it did. -/
def fnExactCountWeightUptoRow : OpenClaim := { program := "ytahkmbihhkjebaa", sum := "2cedaf0db6144eaf24b28154020b1c533c1cfee0955f4b56f87a3e7f3411339c", func := "loop.example/checksinorder/laws.FnExactCountWeight", spec := "fnExactCountWeight", apart := false, narrowed := true }
def FnExactCountWeightUptoSaid : Prop := fnExactCountWeightUptoRow.holds Try.pinned (OpenSpec.upto fnExactCountWeightSpec)

/-- 'laws.FnExactCountBest', WHERE WHAT IT READS IS OF BULK AT MOST 1048576: true; the input reads as it did. -/
def fnExactCountBestUptoRow : OpenClaim := { program := "ytahkmbihhkjebaa", sum := "2cedaf0db6144eaf24b28154020b1c533c1cfee0955f4b56f87a3e7f3411339c", func := "loop.example/checksinorder/laws.FnExactCountBest", spec := "fnExactCountBest", unfollowed := true, recurses := true, apart := false, narrowed := true }
def FnExactCountBestUptoSaid : Prop := fnExactCountBestUptoRow.holds Try.pinned (OpenSpec.upto fnExactCountBestSpec)

/-- 'laws.FnExactGroupTerm', WHERE WHAT IT READS IS OF BULK AT MOST 1048576: true; the input reads as it did. -/
def fnExactGroupTermUptoRow : OpenClaim := { program := "ytahkmbihhkjebaa", sum := "2cedaf0db6144eaf24b28154020b1c533c1cfee0955f4b56f87a3e7f3411339c", func := "loop.example/checksinorder/laws.FnExactGroupTerm", spec := "fnExactGroupTerm", apart := false, narrowed := true }
def FnExactGroupTermUptoSaid : Prop := fnExactGroupTermUptoRow.holds Try.pinned (OpenSpec.upto fnExactGroupTermSpec)

/-- 'laws.FnExactSortedGroups', WHERE WHAT IT READS IS OF BULK AT MOST 1048576: true; the input reads as it did. -/
def fnExactSortedGroupsUptoRow : OpenClaim := { program := "ytahkmbihhkjebaa", sum := "2cedaf0db6144eaf24b28154020b1c533c1cfee0955f4b56f87a3e7f3411339c", func := "loop.example/checksinorder/laws.FnExactSortedGroups", spec := "fnExactSortedGroups", inPlace := ["slices.overlaps[int]", "slices.overlaps[loop.example/checksinorder/impl.askedGroup]"], unfollowed := true, recurses := true, apart := false, narrowed := true }
def FnExactSortedGroupsUptoSaid : Prop := fnExactSortedGroupsUptoRow.holds Try.pinned (OpenSpec.upto fnExactSortedGroupsSpec)

end Rows
end Go.Proofs.Ytahkmbihhkjebaa
