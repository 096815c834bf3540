/- What the functions answer, as equations: E22. No conditions. -/
import Derived.Test.YtjallbfleicfnabDoorE21
set_option linter.unusedSectionVars false
set_option linter.unusedVariables false
set_option linter.unusedSimpArgs false
namespace Zz
open Go.Lg Md
/-! ### what is forced, further -/
theorem unk_zero : ∀ {ks : List Int}, unk ks = 0 → ∀ (k : Nat) (v : Int), ks[k]? = some v → v ≠ -1
  | [], _, k, v, h => by simp at h
  | a :: r, h0, k, v, h => by
    have ub := unk_bound r
    simp only [unk] at h0
    by_cases ha : a = -1
    · rw [if_pos ha] at h0; omega
    · rw [if_neg ha] at h0
      cases k with
      | zero => simp at h; omega
      | succ k => exact unk_zero (ks := r) (by omega) k v (by simpa using h)
theorem at_k {ks : List Int} {i : Nat} (hi : i < ks.length) : ∃ k, ks[i]? = some k ∧ k ∈ ks ∧ atI (ks.map .i) i = some (.i k) ∧ ks.take (i + 1) = ks.take i ++ [k] := by
  refine ⟨ks[i], List.getElem?_eq_getElem hi, List.getElem_mem hi, ?_, List.take_succ_eq_append_getElem hi⟩
  simp [atI, hi]
theorem unk_app : ∀ a b : List Int, unk (a ++ b) = unk a + unk b
  | [], b => by simp [unk]
  | k :: r, b => by simp only [List.cons_append, unk, unk_app r b]; omega
theorem unk_take {ks : List Int} {i : Nat} (hi : i < ks.length) {q : Int} (h : ks[i]? = some q) : unk (ks.take (i + 1)) = unk (ks.take i) + (if q = -1 then 1 else 0) := by
  rw [List.take_add_one, unk_app, h]
  simp [unk]
theorem unk_pos {m : Int} {ts : List T} {ks : List Int} (h : ksOk m ks = true) (hf : foT m ts ks = -1) : 0 < unk ks := by
  obtain ⟨h1, h2, h3⟩ := ksOk_iff.1 h
  obtain ⟨⟨s1, a1, a2, a3⟩, ⟨s2, b1, b2, b3⟩⟩ := (fo_n (ks_some h)).1 hf
  have ub := unk_bound ks
  apply Classical.byContradiction
  intro hn
  have hz : unk ks = 0 := by omega
  have : s1 = s2 := eq_of_low a1 b1 fun k hk => by
    have hkl : k < ks.length := by omega
    obtain ⟨v, hv⟩ : ∃ v, ks[k]? = some v := ⟨ks[k], List.getElem?_eq_getElem hkl⟩
    have n1 := unk_zero hz k v hv
    rcases agB_iff.1 a2 k v hv with e | e
    · exact absurd e n1
    · rcases agB_iff.1 b2 k v hv with e' | e'
      · exact absurd e' n1
      · exact bI_inj.1 (e.symm.trans e')
  subst this
  rw [a3] at b3; cases b3
theorem ks_side {m : Int} {r : List Int} (h : ksOk m (-1 :: r) = true) (c : Bool) : ksOk m (bI c :: r) = true := by
  obtain ⟨h1, h2, h3⟩ := ksOk_iff.1 h
  refine ksOk_iff.2 ⟨h1, by simpa using h2, ?_⟩
  simp only [List.all_cons, Bool.and_eq_true] at h3 ⊢
  exact ⟨by cases c <;> rfl, h3.2⟩
theorem fo_side {m : Int} {ts : List T} {r : List Int} (h : ksOk m (-1 :: r) = true) {b : Bool} (hf : foT m ts (-1 :: r) = bI b) (c : Bool) : foT m ts (bI c :: r) = bI b := by
  unfold foT at hf ⊢
  rw [fo_b (ks_some h)] at hf
  rw [fo_b (ks_some (ks_side h c))]
  intro s hs hg
  refine hf s hs ?_
  rw [agB_cons] at hg ⊢
  simp only [Bool.and_eq_true] at hg ⊢
  exact ⟨by simp, hg.2⟩
theorem fo_at {m : Int} {ts : List T} {ks : List Int} (h : ksOk m ks = true) {b : Bool} (hf : foT m ts ks = bI b) {s : Nat} (hs : s < 2 ^ m.toNat) (hg : agB ks s = true) : tv ts s = b := by
  unfold foT at hf
  rw [fo_b (ks_some h)] at hf
  exact hf s hs hg
end Zz
