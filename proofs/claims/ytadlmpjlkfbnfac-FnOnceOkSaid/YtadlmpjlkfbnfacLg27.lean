/- Part 27 of a logical reading of translated Go: what a frame holds is said by lists, and each operation is proved against the model. No conditions. -/
import Derived.Test.YtadlmpjlkfbnfacLg26
namespace Go.Lg
open Go.RowKit
set_option linter.unusedVariables false

theorem eff_nonW {Γ : Fns} {fr : Nat → Bool} {k : K} (hk : k.isW = false) (xs : List DV) (ob : OB) : eff Γ fr k xs ob = effP fr k xs ob := by
  cases k <;> first | rfl | (simp [K.isW] at hk; done)
def frS (S : LS) : Nat → Bool := fun id => !(id % 8 == 7) && !Env.mentions id S.sl
def goL (Γ : Fns) (o : LOp) (S : LS) : Option LS := match eff Γ (frS S) o.k (o.args.map S.get) S.ob with
  | some (v, ob) => some { sl := putD S.sl o.dst v, ob }
  | none => none
theorem stepL_go (Γ : Fns) (o : LOp) (S : LS) : stepL Γ o S = match o.g with
  | none => goL Γ o S
  | some (t, want) => match Lg.look S.sl t with
    | .b x => if x = want then goL Γ o S else some { S with sl := putD S.sl o.dst .und }
    | .und => some { S with sl := putD S.sl o.dst .und }
    | _ => none := rfl

/-- A step is the same where it looks at the same. 'A': which other frames. -/
theorem step_lift {Γ : Fns} {o : LOp} {S S1 : LS} {A : LS → Prop} (hA : ∀ T, A T → Ag o S T) (h : stepL Γ o S = some S1)
    (hgo : goL Γ o S = some S1 → ∃ d, S1.sl = putD S.sl o.dst d ∧ ∀ T, A T → goL Γ o T = some ⟨putD T.sl o.dst d, S1.ob⟩) (hob : ∀ T, A T → T.ob = S.ob) :
    ∃ d, S1.sl = putD S.sl o.dst d ∧ ∀ T, A T → stepL Γ o T = some ⟨putD T.sl o.dst d, S1.ob⟩ := by
  rw [stepL_go] at h
  cases hg : o.g with
  | none =>
    rw [hg] at h
    obtain ⟨d, h1, h2⟩ := hgo h
    exact ⟨d, h1, fun T hT => by rw [stepL_go, hg]; exact h2 T hT⟩
  | some p =>
    obtain ⟨t, want⟩ := p
    rw [hg] at h
    simp only at h
    cases hl : Lg.look S.sl t with
    | b x =>
      rw [hl] at h
      simp only at h
      by_cases hx : x = want
      · rw [if_pos hx] at h
        obtain ⟨d, h1, h2⟩ := hgo h
        refine ⟨d, h1, fun T hT => ?_⟩
        rw [stepL_go, hg]
        simp only
        rw [← (hA T hT).guard hg, hl]
        simp only
        rw [if_pos hx]
        exact h2 T hT
      · rw [if_neg hx] at h
        injection h with h
        subst h
        refine ⟨.und, rfl, fun T hT => ?_⟩
        rw [stepL_go, hg]
        simp only
        rw [← (hA T hT).guard hg, hl]
        simp only
        rw [if_neg hx, hob T hT]
    | und =>
      rw [hl] at h
      injection h with h
      subst h
      refine ⟨.und, rfl, fun T hT => ?_⟩
      rw [stepL_go, hg]
      simp only
      rw [← (hA T hT).guard hg, hl, hob T hT]
    | _ => rw [hl] at h; cases h

theorem stepL_any {Γ : Fns} {o : LOp} {S S1 : LS} (h : stepL Γ o S = some S1) :
    ∃ d, S1.sl = putD S.sl o.dst d ∧ ∀ T, (Ag o S T ∧ T.ob = S.ob ∧ ∀ k, Env.mentions k T.sl = Env.mentions k S.sl) → stepL Γ o T = some ⟨putD T.sl o.dst d, S1.ob⟩ := by
  refine step_lift (fun T hT => hT.1) h (fun hgo => ?_) (fun T hT => hT.2.1)
  unfold goL at hgo
  split at hgo
  · rename_i v ob he
    injection hgo with hgo
    subst hgo
    refine ⟨v, rfl, fun T hT => ?_⟩
    have e : frS T = frS S := by funext id; unfold frS; rw [hT.2.2]
    unfold goL
    rw [← hT.1.get, hT.2.1, e, he]
  · cases hgo

theorem stepL_nonW {Γ : Fns} {o : LOp} {S S1 : LS} (hk : o.k.isW = false) (h : stepL Γ o S = some S1) :
    S1.ob = S.ob ∧ ∃ d, S1.sl = putD S.sl o.dst d ∧ ∀ T, (Ag o S T ∧ T.ob = S.ob) → stepL Γ o T = some ⟨putD T.sl o.dst d, S1.ob⟩ := by
  have hob : S1.ob = S.ob := by
    rw [stepL_go] at h
    have hgo : goL Γ o S = some S1 → S1.ob = S.ob := fun hgo => by
      unfold goL at hgo
      split at hgo
      · rename_i v ob he
        injection hgo with hgo
        subst hgo
        rw [eff_nonW hk] at he
        exact effP_ob hk he
      · cases hgo
    split at h
    · exact hgo h
    · split at h
      · split at h
        · exact hgo h
        · injection h with h; subst h; rfl
      · injection h with h; subst h; rfl
      · cases h
  refine ⟨hob, step_lift (fun T hT => hT.1) h (fun hgo => ?_) (fun T hT => hT.2)⟩
  unfold goL at hgo
  split at hgo
  · rename_i v ob he
    injection hgo with hgo
    subst hgo
    refine ⟨v, rfl, fun T hT => ?_⟩
    unfold goL
    rw [← hT.1.get, hT.2]
    rw [eff_nonW hk] at he ⊢
    rw [effP_fr hk (frS S), he]
  · cases hgo

theorem noM_ment {d : DV} (h : d.noM = true) (k : Nat) : d.mentions k = false := by cases d <;> simp_all [DV.noM, DV.mentions]
theorem subM_ment {o : LOp} {S : LS} {d : DV} (h : subM S o.args d = true) {k : Nat} (hk : d.mentions k = true) : Env.mentions k S.sl = true := by
  have key : o.args.any (Opd.ment S k) = true → Env.mentions k S.sl = true := by
    intro ha
    obtain ⟨x, hx, hm⟩ := List.any_eq_true.1 ha
    cases x with
    | c d => cases hm
    | t n =>
      simp only [Opd.ment] at hm
      cases he : Env.mentions k S.sl with
      | true => rfl
      | false => rw [mentions_of he n] at hm; cases hm
  cases d <;> simp only [DV.mentions, Bool.false_eq_true, subM] at hk h
  all_goals (have e := beq_iff_eq.1 hk; subst e; exact key h)

theorem oldOk_ment {o : LOp} {S : LS} {d : DV} (h : oldOk o S d = true) {x : Nat} (hx : o.dst = some x) (j : Nat) (hj : (Lg.look S.sl x).mentions j = true) : d.mentions j = true := by
  simp only [oldOk, hx] at h
  cases hl : Lg.look S.sl x <;> rw [hl] at h hj <;> simp only [DV.mentions, Bool.false_eq_true, beq_iff_eq] at hj h
  · subst hj; exact h
  · subst hj; exact h
theorem quiet_ment {o : LOp} {S T : LS} {d : DV} (hold : oldOk o S d = true) (hd : AgD o S T) (h : ∀ k, d.mentions k = true → Env.mentions k T.sl = true) (k : Nat) : Env.mentions k (putD T.sl o.dst d) = Env.mentions k T.sl := by
  unfold putD
  cases hx : o.dst with
  | none => rfl
  | some x =>
    have ho := oldOk_ment hold hx
    rw [hd x hx] at ho
    simp only
    rw [mentions_put ho]
    cases hk : d.mentions k with
    | true => simp [h k hk]
    | false => simp

theorem stepL_quiet {Γ : Fns} {o : LOp} {S S1 : LS} (hk : o.k.isW = false) (hq : quiet o S = true) (h : stepL Γ o S = some S1) :
    ∃ d, S1.sl = putD S.sl o.dst d ∧ (∀ T, Ag o S T → stepL Γ o T = some ⟨putD T.sl o.dst d, T.ob⟩) ∧ ∀ T, Ag o S T → AgD o S T → ∀ k, Env.mentions k (putD T.sl o.dst d) = Env.mentions k T.sl := by
  unfold quiet at hq
  have hgo : quietGo o S = true → goL Γ o S = some S1 → ∃ d, S1.sl = putD S.sl o.dst d ∧ (∀ T, Ag o S T → goL Γ o T = some ⟨putD T.sl o.dst d, T.ob⟩) ∧ ∀ T, Ag o S T → AgD o S T → ∀ k, Env.mentions k (putD T.sl o.dst d) = Env.mentions k T.sl := by
    intro hqg hg
    unfold quietGo at hqg
    split at hqg
    · rename_i d o0 he
      rw [Bool.and_eq_true] at hqg
      obtain ⟨hqg, hold⟩ := hqg
      have hp := effP_pure hk he
      unfold goL at hg
      rw [eff_nonW hk, hp] at hg
      simp only [Option.some.injEq] at hg
      refine ⟨d, by rw [← hg], fun T ha => ?_, fun T ha hd k => ?_⟩
      · unfold goL
        rw [← ha.get, eff_nonW hk, hp]
      · refine quiet_ment hold hd (fun k hkm => ?_) k
        rw [subM_congr ha] at hqg
        exact subM_ment hqg hkm
    · cases hqg
  have hund : oldOk o S .und = true → ∀ T, Ag o S T → AgD o S T → ∀ k, Env.mentions k (putD T.sl o.dst .und) = Env.mentions k T.sl := fun hold T ha hd k => quiet_ment hold hd (fun k h => by simp [DV.mentions] at h) k
  rw [stepL_go] at h
  cases hg : o.g with
  | none =>
    rw [hg] at h hq
    obtain ⟨d, h1, h2, h3⟩ := hgo hq h
    exact ⟨d, h1, fun T hT => by rw [stepL_go, hg]; exact h2 T hT, h3⟩
  | some p =>
    obtain ⟨t, want⟩ := p
    rw [hg] at h hq
    simp only at h hq
    cases hl : Lg.look S.sl t with
    | b x =>
      rw [hl] at h hq
      simp only at h hq
      by_cases hx : x = want
      · rw [if_pos hx] at h hq
        obtain ⟨d, h1, h2, h3⟩ := hgo hq h
        refine ⟨d, h1, fun T hT => ?_, h3⟩
        rw [stepL_go, hg]
        simp only
        rw [← hT.guard hg, hl]
        simp only
        rw [if_pos hx]
        exact h2 T hT
      · rw [if_neg hx] at h hq
        injection h with h
        subst h
        refine ⟨.und, rfl, fun T hT => ?_, hund hq⟩
        rw [stepL_go, hg]
        simp only
        rw [← hT.guard hg, hl]
        simp only
        rw [if_neg hx]
    | und =>
      rw [hl] at h hq
      injection h with h
      subst h
      refine ⟨.und, rfl, fun T hT => ?_, hund hq⟩
      rw [stepL_go, hg]
      simp only
      rw [← hT.guard hg, hl]
    | _ => rw [hl] at h; cases h
end Go.Lg
