/- Part 25 of a logical reading of translated Go: what a frame holds is said by lists, and each operation is proved against the model. No conditions. -/
import Derived.Test.YtadlmpjlkfbnfacLg24
namespace Go.Lg
open Go.RowKit
set_option linter.unusedVariables false

/-! ### Regions that draw their order: what may be exchanged -/
def looksL (o : LOp) : List Nat := (o.args.filterMap fun | .t n => some n | .c _ => none) ++ (match o.g with | some (t, _) => [t] | none => [])
def apartL (x y : LOp) : Bool :=
  (match x.dst with
   | some d => !(looksL y).contains d && y.dst != some d
   | none => true) &&
  (match y.dst with
   | some d => !(looksL x).contains d
   | none => true)
def Ag (o : LOp) (S T : LS) : Prop := ∀ t ∈ looksL o, Lg.look S.sl t = Lg.look T.sl t
def AgD (o : LOp) (S T : LS) : Prop := ∀ x, o.dst = some x → Lg.look S.sl x = Lg.look T.sl x

theorem Ag.get {o : LOp} {S T : LS} (h : Ag o S T) : o.args.map S.get = o.args.map T.get := by
  apply List.map_congr_left
  intro x hx
  cases x with
  | c d => rfl
  | t n => exact h n (List.mem_append_left _ (List.mem_filterMap.2 ⟨_, hx, rfl⟩))
theorem Ag.ment {o : LOp} {S T : LS} (h : Ag o S T) (k : Nat) : o.args.any (Opd.ment S k) = o.args.any (Opd.ment T k) := by
  have : ∀ x ∈ o.args, Opd.ment S k x = Opd.ment T k x := by
    intro x hx
    cases x with
    | c d => rfl
    | t n =>
      have := h n (List.mem_append_left _ (List.mem_filterMap.2 ⟨_, hx, rfl⟩))
      simp only [Opd.ment, this]
  generalize o.args = l at this
  induction l with
  | nil => rfl
  | cons x l ih =>
    simp only [List.any_cons]
    rw [this x (List.mem_cons_self ..), ih (fun y hy => this y (List.mem_cons_of_mem _ hy))]
theorem Ag.guard {o : LOp} {S T : LS} (h : Ag o S T) {t : Nat} {b : Bool} (hg : o.g = some (t, b)) : Lg.look S.sl t = Lg.look T.sl t :=
  h t (List.mem_append_right _ (by rw [hg]; simp))
theorem subM_congr {o : LOp} {S T : LS} (h : Ag o S T) (d : DV) : subM S o.args d = subM T o.args d := by
  cases d <;> simp only [subM, h.ment]
theorem oldOk_congr {o : LOp} {S T : LS} (hd : AgD o S T) (d : DV) : oldOk o S d = oldOk o T d := by
  unfold oldOk
  cases hx : o.dst with
  | none => rfl
  | some x => simp only [hd x hx]
theorem okStep_congr {q : Mode} (hq : q = .free ∨ q = .strong) {o : LOp} {S T : LS} (h : Ag o S T) (hd : AgD o S T) : okStep q o S = okStep q o T := by
  have h1 : ∀ d, oldOk o S d = oldOk o T d := by
    intro d
    unfold oldOk
    cases hx : o.dst with
    | none => rfl
    | some x => simp only [hd x hx]
  have h2 : quietGo o S = quietGo o T := by
    unfold quietGo
    rw [h.get]
    cases effP (fun _ => false) o.k (o.args.map T.get) [] with
    | none => rfl
    | some p => simp only [subM_congr h, h1]
  cases q with
  | free => rfl
  | weak => rcases hq with h | h <;> cases h
  | foot L => rcases hq with h | h <;> cases h
  | strong =>
    unfold okStep quiet
    rw [h1, h2]
    cases hg : o.g with
    | none => rfl
    | some p =>
      obtain ⟨t, b⟩ := p
      simp only [h.guard hg]
theorem quiet_congr {o : LOp} (hk : o.k.isW = false) {S T : LS} (h : Ag o S T) (hd : AgD o S T) : quiet o S = quiet o T := by
  have := okStep_congr (q := .strong) (.inr rfl) h hd
  simpa [okStep, hk] using this
theorem clears_congr {L : List Nat} {o : LOp} {S T : LS} (h : Ag o S T) : clears L o S = clears L o T := by
  unfold clears
  rw [h.get]
  cases hg : o.g with
  | none => rfl
  | some p =>
    obtain ⟨t, b⟩ := p
    simp only [h.guard hg]
theorem adds_congr {o : LOp} {S T : LS} (h : Ag o S T) : adds o S = adds o T := by
  unfold adds
  rw [h.get]
  cases hg : o.g with
  | none => rfl
  | some p =>
    obtain ⟨t, b⟩ := p
    simp only [h.guard hg]

theorem mentions_put {k t : Nat} {d : DV} : ∀ {e : Env}, (∀ j, (Lg.look e t).mentions j = true → d.mentions j = true) → Env.mentions k (Lg.put e t d) = (d.mentions k || Env.mentions k e)
  | [], _ => by simp [Lg.put, Env.mentions]
  | (j, x) :: r, h => by
    simp only [Lg.put]
    split
    · simp [Env.mentions]
    · split
      · rename_i h1 h2
        subst h2
        simp only [Lg.look, if_true] at h
        have hk := h k
        simp only [Env.mentions, List.any_cons]
        cases hx : x.mentions k with
        | true => simp [hk hx]
        | false => simp
      · rename_i h1 h2
        simp only [Lg.look, if_neg (Ne.symm h2)] at h
        have ih := mentions_put (k := k) (d := d) h
        simp only [Env.mentions, List.any_cons] at ih ⊢
        rw [ih]
        cases x.mentions k <;> cases d.mentions k <;> simp

theorem put_comm {x y : Nat} {a b : DV} (h : x ≠ y) : ∀ e : Env, Lg.put (Lg.put e x a) y b = Lg.put (Lg.put e y b) x a
  | [] => by
    simp only [Lg.put]
    grind [Lg.put]
  | (k, c) :: r => by
    have ih := put_comm (a := a) (b := b) h r
    grind [Lg.put]
end Go.Lg
