/- What the functions answer, as equations: E21. No conditions. -/
import Derived.Test.YtjallbfleicfnabDoorE20
set_option linter.unusedSectionVars false
set_option linter.unusedVariables false
set_option linter.unusedSimpArgs false
namespace Zz
open Go.Lg Md
/-! ### proofs -/
theorem agB_iff : ∀ {ks : List Int} {s : Nat}, agB ks s = true ↔ ∀ k v, ks[k]? = some v → v = -1 ∨ v = bI (s.testBit k)
  | [], s => by simp [agB, ag]
  | a :: r, s => by
    rw [agB_cons]
    simp only [Bool.and_eq_true, Bool.or_eq_true, beq_iff_eq]
    rw [agB_iff (ks := r)]
    constructor
    · rintro ⟨h1, h2⟩ k v hv
      cases k with
      | zero => simp at hv; subst hv; exact h1
      | succ k => simp at hv; have := h2 k v hv; rw [Nat.testBit_succ]; exact this
    · intro h
      refine ⟨h 0 a rfl, fun k v hv => ?_⟩
      have := h (k + 1) v (by simpa using hv)
      rw [Nat.testBit_succ] at this
      exact this
theorem bI_inj {a b : Bool} : bI a = bI b ↔ a = b := by cases a <;> cases b <;> simp [bI]
theorem ag_told {m st so s : Nat} : agB (told m st so) s = true ↔ ∀ k, k < m → so.testBit k = true → s.testBit k = st.testBit k := by
  rw [agB_iff]
  have hl := told_len m st so
  constructor
  · intro h k hk hs
    have := h k (bI (st.testBit k)) (by simp [told, hk, hs])
    rcases this with e | e
    · cases hb : st.testBit k <;> rw [hb] at e <;> simp [bI] at e
    · exact (bI_inj.1 e).symm
  · intro h k v hv
    have hk : k < m := by
      have := (List.getElem?_eq_some_iff.1 hv).1
      omega
    simp [told, hk] at hv
    cases hs : so.testBit k with
    | false => left; rw [hs] at hv; simpa using hv.symm
    | true => right; rw [hs] at hv; rw [h k hk hs]; simpa using hv.symm
theorem prf_iff {m : Int} {ts : List T} {st so : Nat} (hs : st < 2 ^ m.toNat) : prf m ts st so = true ↔ ∀ s, s < 2 ^ m.toNat → (∀ k, k < m.toNat → so.testBit k = true → s.testBit k = st.testBit k) → tv ts s = tv ts st := by
  have self : agB (told m.toNat st so) st = true := ag_told.2 fun _ _ _ => rfl
  have hne : ∃ s, s < 2 ^ m.toNat ∧ agB (told m.toNat st so) s = true := ⟨st, hs, self⟩
  unfold prf foT
  constructor
  · intro h s hs' hg
    have hne' : ∀ b, fo (tv ts) (agB (told m.toNat st so)) (2 ^ m.toNat) = bI b → tv ts s = tv ts st := fun b e => by
      rw [fo_b hne] at e
      rw [e s hs' (ag_told.2 hg), e st hs self]
    rcases fo_or (tv ts) (agB (told m.toNat st so)) (2 ^ m.toNat) with e | e | e
    · exact hne' true e
    · exact hne' false e
    · rw [e] at h; cases h
  · intro h
    have e := (fo_b (f := tv ts) hne (tv ts st)).2 fun s hs' hg => h s hs' (ag_told.1 hg)
    rw [e]
    cases tv ts st <;> rfl
theorem prf_mono {m : Int} {ts : List T} {st so so' : Nat} (hs : st < 2 ^ m.toNat) (h : ∀ k, k < m.toNat → so.testBit k = true → so'.testBit k = true) (hp : prf m ts st so = true) : prf m ts st so' = true := by
  rw [prf_iff hs] at hp ⊢
  exact fun s hs' hg => hp s hs' fun k hk hb => hg k hk (h k hk hb)
theorem eq_of_low {m a b : Nat} (ha : a < 2 ^ m) (hb : b < 2 ^ m) (h : ∀ k, k < m → a.testBit k = b.testBit k) : a = b := by
  apply Nat.eq_of_testBit_eq
  intro k
  by_cases hk : k < m
  · exact h k hk
  · rw [Nat.testBit_lt_two_pow (Nat.lt_of_lt_of_le ha (Nat.pow_le_pow_right (by omega) (by omega))), Nat.testBit_lt_two_pow (Nat.lt_of_lt_of_le hb (Nat.pow_le_pow_right (by omega) (by omega)))]
theorem prf_all {m : Int} {ts : List T} {st so : Nat} (hs : st < 2 ^ m.toNat) (h : ∀ k, k < m.toNat → so.testBit k = true) : prf m ts st so = true := by
  rw [prf_iff hs]
  intro s hs' hg
  rw [eq_of_low hs' hs fun k hk => hg k hk (h k hk)]
theorem prf_dual {m : Int} {ts : List T} (h : tmOk m ts = true) {st so : Nat} (hs : st < 2 ^ m.toNat) : prf m (ts.map dT) (opp m st) so = prf m ts st so := by
  rw [Bool.eq_iff_iff, prf_iff (opp_lt hs), prf_iff hs]
  constructor
  · intro q s hs' hg
    have := q (opp m s) (opp_lt hs') fun k hk hb => by rw [opp_bit hs' hk, opp_bit hs hk, hg k hk hb]
    rw [tv_dual h hs', tv_dual h hs] at this
    simpa using this
  · intro q s hs' hg
    have := q (opp m s) (opp_lt hs') fun k hk hb => by rw [opp_bit hs' hk, hg k hk hb, opp_bit hs hk]; simp
    rw [tv_dual h hs, ← opp_opp hs', tv_dual h (opp_lt hs'), this]
end Zz
