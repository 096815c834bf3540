/- Part 26 of a logical reading of translated Go: what a frame holds is said by lists, and each operation is proved against the model. No conditions. -/
import Derived.Test.YtadlmpjlkfbnfabLg25
namespace Go.Lg
open Go.RowKit
set_option linter.unusedVariables false

theorem effP_fr {k : K} (hk : k.isW = false) (fr fr' : Nat → Bool) (xs : List DV) (ob : OB) : effP fr' k xs ob = effP fr k xs ob := by
  cases k <;> first | rfl | (simp [K.isW] at hk; done) | skip
  rename_i v id
  cases v <;> first | rfl | (simp [K.isW] at hk; done)
theorem effP_ob {fr : Nat → Bool} {k : K} (hk : k.isW = false) {xs : List DV} {ob ob' : OB} {d : DV} (h : effP fr k xs ob = some (d, ob')) : ob' = ob := by
  cases k <;> simp only [K.isW, Bool.true_eq_false] at hk <;> simp only [effP] at h
  all_goals grind [Option.map_eq_some_iff]
theorem sliceD_nil {x : DV} {sz : Nat} {a h : Option Int} {d : DV} (e : sliceD [] x sz a h = some d) (ob : OB) : sliceD ob x sz a h = some d := by
  cases x <;> simp_all [sliceD, lookO]
theorem effP_pure {fr0 : Nat → Bool} {k : K} (hk : k.isW = false) {xs : List DV} {o0 : OB} {d : DV} (h : effP fr0 k xs [] = some (d, o0)) (fr : Nat → Bool) (ob : OB) : effP fr k xs ob = some (d, ob) := by
  cases k <;> simp only [K.isW, Bool.true_eq_false] at hk <;> simp only [effP] at h ⊢
  all_goals (repeat' (first | (simp_all [elems, lookO, sliceD]; done) | split at h | split | (grind [Option.map_eq_some_iff, elems, lookO, sliceD_nil]; done)))
end Go.Lg
