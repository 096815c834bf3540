/- Part 28 of a logical reading of translated Go: what a frame holds is said by lists, and each operation is proved against the model. No conditions. -/
import Derived.Test.YtadlmpjlkfbnfabLg27
namespace Go.Lg
open Go.RowKit
set_option linter.unusedVariables false

theorem apartL_spec {x y : LOp} (h : apartL x y = true) : (∀ d, x.dst = some d → d ∉ looksL y) ∧ (∀ d, x.dst = some d → y.dst ≠ some d) ∧ (∀ d, y.dst = some d → d ∉ looksL x) := by
  refine ⟨fun d hd => ?_, fun d hd => ?_, fun d hd => ?_⟩ <;> simp [apartL, hd] at h
  · exact h.1.1
  · exact h.1.2
  · exact h.2
theorem look_putD (e : Env) (x : Option Nat) (d : DV) (t : Nat) (h : x ≠ some t) : Lg.look (putD e x d) t = Lg.look e t := by
  cases x with
  | none => rfl
  | some y => simp only [putD]; rw [look_put, if_neg (fun e => h (by rw [e]))]
theorem putD_comm {x y : Option Nat} {a b : DV} (h : ∀ d, x = some d → y ≠ some d) (e : Env) : putD (putD e x a) y b = putD (putD e y b) x a := by
  cases x with
  | none => rfl
  | some x =>
    cases y with
    | none => rfl
    | some y => exact put_comm (fun e => h x rfl (by rw [e])) e
theorem ag_step {S S1 : LS} {x : Option Nat} {d : DV} (h : S1.sl = putD S.sl x d) {i : LOp} (hx : ∀ d, x = some d → d ∉ looksL i) : Ag i S1 S ∧ Ag i S S1 := by
  have : Ag i S1 S := fun t ht => by rw [h]; exact look_putD _ _ _ _ (fun e => hx t e ht)
  exact ⟨this, fun t ht => (this t ht).symm⟩
theorem agD_step {S S1 : LS} {x : Option Nat} {d : DV} (h : S1.sl = putD S.sl x d) {i : LOp} (hx : ∀ d, x = some d → i.dst ≠ some d) : AgD i S1 S ∧ AgD i S S1 := by
  have : AgD i S1 S := fun t ht => by rw [h]; exact look_putD _ _ _ _ (fun e => hx t e ht)
  exact ⟨this, fun t ht => (this t ht).symm⟩
theorem ls_eq {S : LS} {e : Env} {ob : OB} (h1 : S.sl = e) (h2 : S.ob = ob) : (⟨e, ob⟩ : LS) = S := by cases S; simp_all

/-- Two neighbours, exchanged. -/
theorem swap_ok {Γ : Fns} {q : Bool} {i j : LOp} (hap : apartL j i = true) (hw : ¬ (j.k.isW = true ∧ i.k.isW = true)) (hq : j.k.isW = true ∨ i.k.isW = true → q = true) {S S1 S2 : LS} (oj : okStep q j S = true) (sj : stepL Γ j S = some S1) (oi : okStep q i S1 = true) (si : stepL Γ i S1 = some S2) :
    ∃ T1, okStep q i S = true ∧ stepL Γ i S = some T1 ∧ okStep q j T1 = true ∧ stepL Γ j T1 = some S2 := by
  obtain ⟨p1, p2, p3⟩ := apartL_spec hap
  have p2' : ∀ d, i.dst = some d → j.dst ≠ some d := fun d hi hj => p2 d hj hi
  obtain ⟨dj, ej, fj⟩ := stepL_any sj
  have ai := ag_step ej p1
  have bi := agD_step ej p2
  have oi' : okStep q i S = true := by rw [← okStep_congr ai.1 bi.1]; exact oi
  have fin : ∀ (di : DV) (T1 : LS), S2.sl = putD S1.sl i.dst di → T1.sl = putD S.sl i.dst di → (∃ e, stepL Γ j T1 = some ⟨putD T1.sl j.dst e, S2.ob⟩ ∧ S1.sl = putD S.sl j.dst e) → okStep q j T1 = true ∧ stepL Γ j T1 = some S2 := by
    rintro di T1 e2 e1 ⟨e, hs, he⟩
    have aj := ag_step e1 p3
    have bj := agD_step e1 p2'
    refine ⟨by rw [okStep_congr aj.1 bj.1]; exact oj, ?_⟩
    rw [hs]
    congr 1
    exact ls_eq (by rw [e2, e1, he]; exact putD_comm p2 S.sl) rfl
  cases hi : i.k.isW with
  | false =>
    obtain ⟨obi, di, ei, fi⟩ := stepL_nonW hi si
    cases hj : j.k.isW with
    | false =>
      obtain ⟨obj, dj', ej', fj'⟩ := stepL_nonW hj sj
      have s1 := fi S ⟨ai.1, obj.symm⟩
      refine ⟨⟨putD S.sl i.dst di, S2.ob⟩, oi', s1, fin di _ ei rfl ⟨dj', ?_, ej'⟩⟩
      have aj := ag_step (S := S) (S1 := ⟨putD S.sl i.dst di, S2.ob⟩) rfl p3
      rw [fj' ⟨putD S.sl i.dst di, S2.ob⟩ ⟨aj.2, by rw [obi, obj]⟩, obi]
    | true =>
      have hq1 := hq (.inl hj)
      subst hq1
      have hqi : quiet i S1 = true := by simpa [okStep, hi] using oi
      obtain ⟨di', ei', gi, mi⟩ := stepL_quiet hi hqi si
      have s1 := gi S ai.1
      refine ⟨⟨putD S.sl i.dst di', S.ob⟩, oi', s1, fin di' _ ei' rfl ⟨dj, ?_, ej⟩⟩
      have aj := ag_step (S := S) (S1 := ⟨putD S.sl i.dst di', S.ob⟩) rfl p3
      rw [fj ⟨putD S.sl i.dst di', S.ob⟩ ⟨aj.2, rfl, fun k => mi S ai.1 bi.1 k⟩, obi]
  | true =>
    have hj : j.k.isW = false := by
      cases hj : j.k.isW with
      | false => rfl
      | true => exact absurd ⟨hj, hi⟩ hw
    have hq1 := hq (.inr hi)
    subst hq1
    have hqj : quiet j S = true := by simpa [okStep, hj] using oj
    obtain ⟨obj, _⟩ := stepL_nonW hj sj
    obtain ⟨dj', ej', gj, mj⟩ := stepL_quiet hj hqj sj
    obtain ⟨di, ei, fi⟩ := stepL_any si
    have s1 := fi S ⟨ai.1, obj.symm, fun k => by rw [ej']; exact (mj S (fun t _ => rfl) (fun t _ => rfl) k).symm⟩
    refine ⟨⟨putD S.sl i.dst di, S2.ob⟩, oi', s1, fin di _ ei rfl ⟨dj', ?_, ej'⟩⟩
    have aj := ag_step (S := S) (S1 := ⟨putD S.sl i.dst di, S2.ob⟩) rfl p3
    rw [gj ⟨putD S.sl i.dst di, S2.ob⟩ aj.2]

theorem runD_cons {Γ : Fns} {q : Bool} {o : LOp} {os : List LOp} {S Sf : LS} : runD Γ q (o :: os) S = some Sf ↔ okStep q o S = true ∧ ∃ S1, stepL Γ o S = some S1 ∧ runD Γ q os S1 = some Sf := by
  simp only [runD]
  constructor
  · intro h
    split at h
    · rename_i ho
      split at h
      · rename_i S1 hs
        exact ⟨ho, S1, hs, h⟩
      · cases h
    · cases h
  · rintro ⟨ho, S1, hs, h⟩
    rw [if_pos ho, hs]
    exact h

/-- One that need not wait, done first. -/
theorem bubble {Γ : Fns} {q : Bool} {i : LOp} {l2 : List LOp} : ∀ {l1 : List LOp} {S Sf : LS}, (∀ j ∈ l1, apartL j i = true ∧ ¬ (j.k.isW = true ∧ i.k.isW = true) ∧ (j.k.isW = true ∨ i.k.isW = true → q = true)) →
    runD Γ q (l1 ++ i :: l2) S = some Sf → okStep q i S = true ∧ ∃ T1, stepL Γ i S = some T1 ∧ runD Γ q (l1 ++ l2) T1 = some Sf
  | [], S, Sf, _, h => runD_cons.1 h
  | j :: l1, S, Sf, hc, h => by
    obtain ⟨oj, S1, sj, hr⟩ := runD_cons.1 h
    obtain ⟨oi, S2, si, hr2⟩ := bubble (fun x hx => hc x (List.mem_cons_of_mem _ hx)) hr
    obtain ⟨c1, c2, c3⟩ := hc j (List.mem_cons_self ..)
    obtain ⟨T1, q1, q2, q3, q4⟩ := swap_ok c1 c2 c3 oj sj oi si
    exact ⟨q1, T1, q2, runD_cons.2 ⟨q3, S2, q4, hr2⟩⟩
end Go.Lg
