/- Part 33 of a logical reading of translated Go: what a frame holds is said by lists, and each operation is proved against the model. No conditions. -/
import Derived.Test.YtadlmpjlkfbnfacLg32
namespace Go.Lg
set_option linter.unusedSimpArgs false
set_option linter.unusedVariables false
/-! ### Loops that count -/
def allTo (P : Nat → Bool) : Nat → Bool
  | 0 => true
  | n + 1 => P 0 && allTo (fun i => P (i + 1)) n
theorem allTo_iff {n : Nat} : ∀ {P : Nat → Bool}, allTo P n = true ↔ ∀ i, i < n → P i = true := by
  induction n with
  | zero => intro P; simp [allTo]
  | succ n ih =>
    intro P
    simp only [allTo, Bool.and_eq_true, ih]
    constructor
    · rintro ⟨h0, h⟩ i hi
      cases i with
      | zero => exact h0
      | succ i => exact h i (by omega)
    · intro h
      exact ⟨h 0 (by omega), fun i hi => h (i + 1) (by omega)⟩
theorem loop_count {lf : Nat → Option LF} {L : LC} (N : Nat) : ∀ (S : Nat → LS) {x : Ex} {R : LS}, (∀ i, i < N → ex lf L (S i) = some (.normal, S (i + 1))) → ex lf L (S N) = some (x, R) → x ≠ .normal → ex lf (.loop L) (S 0) = some (x, R) := by
  induction N with
  | zero =>
    intro S x R _ hN hx
    rw [ex_loop, hN]
    cases x <;> first | rfl | exact absurd rfl hx
  | succ n ih =>
    intro S x R h hN hx
    rw [ex_loop, h 0 (by omega)]
    exact ih (fun i => S (i + 1)) (fun i hi => h (i + 1) (by omega)) hN hx
theorem loop_all {lf : Nat → Option LF} {L : LC} (N : Nat) : ∀ (S : Nat → LS) (P : Nat → Bool) {x : Ex} {R Q : LS}, (∀ i, i < N → ex lf L (S i) = if P i = true then some (.normal, S (i + 1)) else some (.ret, Q)) → ex lf L (S N) = some (x, R) → x ≠ .normal → ex lf (.loop L) (S 0) = if allTo P N = true then some (x, R) else some (.ret, Q) := by
  induction N with
  | zero =>
    intro S P x R Q _ hN hx
    rw [ex_loop, hN]
    cases x <;> first | rfl | exact absurd rfl hx
  | succ n ih =>
    intro S P x R Q h hN hx
    rw [ex_loop, h 0 (by omega)]
    cases hp : P 0 with
    | true =>
      simp only [if_true, allTo, hp, Bool.true_and]
      exact ih (fun i => S (i + 1)) (fun i => P (i + 1)) (fun i hi => h (i + 1) (by omega)) hN hx
    | false => simp [allTo, hp]
end Go.Lg
