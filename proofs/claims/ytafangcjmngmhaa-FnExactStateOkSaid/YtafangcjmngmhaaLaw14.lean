/- What the functions answer, as equations: Law14. No conditions. -/
import Derived.Test.YtafangcjmngmhaaIr14
import Derived.Test.YtafangcjmngmhaaLg23
import Derived.Test.YtafangcjmngmhaaRows
import Derived.WalkKit
import Derived.ProofKit
import Derived.OpenShut
import Derived.ShutString
import Derived.ChangeOld
import Derived.Below
namespace Zz
open Go.Lg

set_option linter.unusedVariables false
attribute [local simp] ex_skip ex_ret ex_exit ex_region ex_seq ex_cond ex_block ex_ghost regionL runL stepL eff effP resV Env.mentions DV.mentions binD binI unD look put putD LS.get LS.drop killE sweep lookO putO dropO enter leave giveBackL giveBack outs callD lendArgs lendArg lendsOwn newRes putRefs takeIn takeInL lendL DV.lend adoptL DV.adopt elems refKs ownKs apartKs

theorem c51 (a b c : Int) : call lf 51 [.i a, .i b, .i c] = some (.b (decide (b ≤ a ∧ a ≤ c)), []) := by
  rw [call_eq lf 51 _ (F := F51) rfl rfl]
  simp [F51]
  by_cases h : b ≤ a <;> simp [h]
theorem c52 (a b c : Int) : call lf 52 [.i a, .i b, .i c] = some (.b (decide (b ≤ a ∧ a ≤ c)), []) := by
  rw [call_eq lf 52 _ (F := F52) rfl rfl]
  simp [F52]
  by_cases h : b ≤ a <;> simp [h]
theorem c50 (a : Int) : call lf 50 [.i a] = some (.b (decide (1 ≤ a ∧ a ≤ 5)), []) := by
  rw [call_eq lf 50 _ (F := F50) rfl rfl]
  simp [F50, c51]
theorem c54 (a : Int) (h : 0 ≤ a) : call lf 54 [.i a] = some (.i (wr (1 * 2 ^ (min a.toNat 64))), []) := by
  rw [call_eq lf 54 _ (F := F54) rfl rfl]
  have h1 : ¬ a < 0 := by omega
  simp [F54, h1]
def okS (n s : Int) : Bool := decide (1 ≤ n ∧ n ≤ 5) && decide (0 ≤ s ∧ s ≤ wr (wr (1 * 2 ^ (min n.toNat 64)) - 1))
theorem c20 (a b : Int) : call lf 20 [.i a, .i b] = some (.b (okS a b), []) := by
  rw [call_eq lf 20 _ (F := F20) rfl rfl]
  by_cases h : 1 ≤ a ∧ a ≤ 5
  · simp [F20, c50, c51, h, okS, c54 a (by omega)]
  · simp [F20, c50, h, okS]
theorem c21 (a b : Int) : call lf 21 [.i a, .i b] = some (.b (okS a b), []) := by
  rw [call_eq lf 21 _ (F := F21) rfl rfl]
  by_cases h : 1 ≤ a ∧ a ≤ 5
  · have h1 : ¬ a < 0 := by omega
    simp [F21, c52, h, okS, h1]
  · simp [F21, c52, h, okS]
theorem c14 (a b : Int) : call lf 14 [.i a, .i b] = some (.b true, []) := by
  rw [call_eq lf 14 _ (F := F14) rfl rfl]
  simp [F14, c20, c21]
end Zz
