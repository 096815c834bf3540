/- Part 26 of a logical reading of translated Go: what a frame holds is said by lists, and each operation is proved against the model. No conditions. -/
import Derived.Test.YtadlmpjlkfbnfacLg25
namespace Go.Lg
open Go.RowKit
set_option linter.unusedVariables false

theorem effP_fr {k : K} (hk : k.isW = false) (fr fr' : Nat → Bool) (xs : List DV) (ob : OB) : effP fr' k xs ob = effP fr k xs ob := by
  cases k <;> first | rfl | (simp [K.isW] at hk; done) | skip
  rename_i v id
  cases v <;> first | rfl | (simp [K.isW] at hk; done)
theorem effP_ob {fr : Nat → Bool} {k : K} (hk : k.isW = false) {xs : List DV} {ob ob' : OB} {d : DV} (h : effP fr k xs ob = some (d, ob')) : ob' = ob := by
  cases k <;> simp only [K.isW, Bool.true_eq_false] at hk <;> simp only [effP] at h
  all_goals grind [Option.map_eq_some_iff]
theorem sliceD_nil {x : DV} {sz : Nat} {a h : Option Int} {d : DV} (e : sliceD [] x sz a h = some d) (ob : OB) : sliceD ob x sz a h = some d := by
  cases x <;> simp_all [sliceD, lookO]
theorem effP_pure {fr0 : Nat → Bool} {k : K} (hk : k.isW = false) {xs : List DV} {o0 : OB} {d : DV} (h : effP fr0 k xs [] = some (d, o0)) (fr : Nat → Bool) (ob : OB) : effP fr k xs ob = some (d, ob) := by
  cases k <;> simp only [K.isW, Bool.true_eq_false] at hk <;> simp only [effP] at h ⊢
  all_goals (repeat' (first | (simp_all [elems, lookO, sliceD]; done) | split at h | split | (grind [Option.map_eq_some_iff, elems, lookO, sliceD_nil]; done)))
theorem sliceD_loc {x : DV} {sz : Nat} {a h : Option Int} {ob ob' : OB} (hl : ∀ id, x.mentions id = true → lookO ob' id = lookO ob id) : sliceD ob' x sz a h = sliceD ob x sz a h := by
  cases x <;> try rfl
  simp only [sliceD]
  rw [hl _ (by simp [DV.mentions])]
theorem elems_loc {x : DV} {ob ob' : OB} (hl : ∀ id, x.mentions id = true → lookO ob' id = lookO ob id) : elems ob' x = elems ob x := by
  cases x <;> try rfl
  simp only [elems]
  rw [hl _ (by simp [DV.mentions])]
/-- What an operation that makes and changes nothing looks at. -/
theorem effP_loc {fr : Nat → Bool} {k : K} (hk : k.isW = false) {xs : List DV} {ob ob' : OB} (hl : ∀ x ∈ xs, ∀ id, x.mentions id = true → lookO ob' id = lookO ob id) {d : DV} {o1 : OB} (h : effP fr k xs ob = some (d, o1)) : effP fr k xs ob' = some (d, ob') := by
  have base : ∀ {r : Option (DV × OB)}, r = some (d, o1) → (∀ d1 o2, r = some (d1, o2) → effP fr k xs ob' = some (d1, ob')) → effP fr k xs ob' = some (d, ob') := fun e f => f _ _ e
  cases k with
  | idxa sz =>
    simp only [effP] at h ⊢
    split at h
    · split at h
      · split at h
        · split at h
          · injection h with h; simp only [Prod.mk.injEq] at h; obtain ⟨rfl, rfl⟩ := h; simp_all
          · cases h
        · cases h
      · cases h
    · rename_i k m lo hi n
      rw [elems_loc (hl _ (List.mem_cons_self ..))]
      split at h
      · split at h
        · injection h with h; simp only [Prod.mk.injEq] at h; obtain ⟨rfl, rfl⟩ := h; simp_all
        · cases h
      · cases h
    · cases h
  | load sz agg =>
    simp only [effP] at h ⊢
    split at h
    · rw [Option.map_eq_some_iff] at h
      obtain ⟨e, he, h⟩ := h
      simp only [Prod.mk.injEq] at h
      obtain ⟨rfl, rfl⟩ := h
      rw [he]; rfl
    · rename_i k n a q
      rw [hl _ (List.mem_cons_self ..) k (by simp [DV.mentions])]
      split at h
      · split at h
        · split at h
          · rw [Option.map_eq_some_iff] at h
            obtain ⟨e, he, h⟩ := h
            simp only [Prod.mk.injEq] at h
            obtain ⟨rfl, rfl⟩ := h
            simp_all
          · cases h
        · cases h
      · cases h
    · cases h
  | slice lo hi sz =>
    simp only [effP] at h ⊢
    split at h
    · rename_i x r
      have e : ∀ a h, sliceD ob' x sz a h = sliceD ob x sz a h := fun a h => sliceD_loc (hl x (List.mem_cons_self ..))
      simp only [e]
      split at h
      · rw [Option.map_eq_some_iff] at h
        obtain ⟨e, he, h⟩ := h
        simp only [Prod.mk.injEq] at h
        obtain ⟨rfl, rfl⟩ := h
        rw [he]; rfl
      · cases h
    · cases h
  | _ =>
    simp only [K.isW, Bool.true_eq_false] at hk
    all_goals (simp only [effP] at h ⊢; repeat' (first | (simp_all; done) | split at h | (grind [Option.map_eq_some_iff]; done)))
end Go.Lg
