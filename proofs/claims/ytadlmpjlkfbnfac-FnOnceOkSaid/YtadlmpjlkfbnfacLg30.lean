/- Part 30 of a logical reading of translated Go: what a frame holds is said by lists, and each operation is proved against the model. No conditions. -/
import Derived.Test.YtadlmpjlkfbnfacLg29
namespace Go.Lg
open Go.RowKit
set_option linter.unusedVariables false

/-- Which regions that draw are served. -/
def dcOf (P : Program) (ops : Array Oper) : Bool := match viewOps P ops ops.toList with
  | some ls => drawB ops ls
  | none => false
theorem draw_ok {P : Program} (hm : P.follows .mixedOrders = true) : ∀ Γ, FnSound P Γ → DrawOk P Γ (dcOf P) := by
  intro Γ hS c N id ops ls S S1 a w Q hd hF hv hN hs hr hQ
  unfold dcOf at hd
  rw [hv] at hd
  exact draw_region hm (callOk_of hS) hF hv hN hd hs hr hQ
end Go.Lg
