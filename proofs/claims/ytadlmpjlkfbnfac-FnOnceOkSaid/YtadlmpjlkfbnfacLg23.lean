/- Part 23 of a logical reading of translated Go: what a frame holds is said by lists, and each operation is proved against the model. No conditions. -/
import Derived.Test.YtadlmpjlkfbnfacLg22
import Derived.Below
namespace Go.Lg
open Go.RowKit
set_option linter.unusedVariables false

/-- All functions of a table are as they are said to be. -/
theorem callN_sound {P : Program} {lf : Nat → Option LF} {dc : Array Oper → Bool} (hok : ∀ f F, lf f = some F → OkF P dc f F) (hD : ∀ Γ, FnSound P Γ → DrawOk P Γ dc) : ∀ n, FnSound P (callN lf n)
  | 0 => fun f args r h => by simp [callN] at h
  | n + 1 => fun f args r h => by
    have ih := callN_sound hok hD n
    simp only [callN] at h
    split at h
    · cases h
    · rename_i F hF
      split at h
      · rename_i hl
        split at h
        · rename_i S he
          exact call_spec (callOk_of ih) (hD _ ih) (hok f F hF) hl (.inl rfl) he h
        · rename_i S he
          exact call_spec (callOk_of ih) (hD _ ih) (hok f F hF) hl (.inr rfl) he h
        · cases h
      · cases h
theorem call_sound {P : Program} {lf : Nat → Option LF} {dc : Array Oper → Bool} (hok : ∀ f F, lf f = some F → OkF P dc f F) (hD : ∀ Γ, FnSound P Γ → DrawOk P Γ dc) {f : Nat} {args : List DV} {r : DV × List DV} (h : call lf f args = some r) : CallSpec P f args r := by
  obtain ⟨n, hn⟩ := call_iff.1 h
  exact (callN_sound hok hD n f args r hn).2
theorem draw_none {P : Program} : ∀ Γ, FnSound P Γ → DrawOk P Γ fun _ => false := fun Γ _ c N id ops ls S S1 a w Q h => by cases h

theorem enter_ob_plain : ∀ {args : List DV} {j : Nat} {S : LS}, (∀ d ∈ args, ∀ c, d ≠ .ref c) → (enter j args S).ob = S.ob
  | [], _, _, _ => rfl
  | d :: ds, j, S, h => by
    have h1 := h d (List.mem_cons_self ..)
    have h2 : ∀ d ∈ ds, ∀ c, d ≠ .ref c := fun x hx => h x (List.mem_cons_of_mem _ hx)
    cases d with
    | ref c => exact absurd rfl (h1 c)
    | _ => exact (enter_ob_plain h2).trans rfl

/-- An outermost call: all that is there may be read. -/
theorem entry_top {w : World} {args : List DV} {vs : Array Value} (hs : vs.size = args.length) (hn : ∀ d ∈ args, ∀ c, d ≠ .ref c)
    (h : ∀ (j : Nat) (d : DV) (v : Value), args[j]? = some d → vs[j]? = some v → VR w w.heap.size (okb (fun _ => True) w.heap.size fun _ => none) (fun _ => none) d v) : Entry w (fun _ => True) [] (fun _ => none) args vs := by
  refine ⟨hs, ⟨rfl, rfl, rfl, Nat.le_refl _, fun _ _ _ => rfl, fun k => (by rw [enter_ob_plain hn]; simp [lookO]), fun k p es hk => (by cases hk), fun k k2 p p2 g hk => (by cases hk), fun k p g hk => (by cases hk), fun k p hk => (by cases hk), fun r hr => (by cases hr)⟩, fun j => ?_, fun r hr => (by cases hr)⟩
  rw [enter_sl args 0 ⟨[], []⟩ j]
  simp only [Nat.zero_le, if_true, Nat.sub_zero, look]
  cases hd : args[j]? with
  | none => exact .dead _
  | some d =>
    have hj : j < vs.size := by rw [hs]; exact (List.getElem?_eq_some_iff.1 hd).1
    have hv := h j d vs[j] hd (by simp [hj])
    have e : vs.getD j undef = vs[j] := by simp [Array.getD_eq_getD_getElem?, hj]
    rw [e]
    cases d with
    | ref c => exact absurd rfl (hn _ (List.mem_of_getElem? hd) c)
    | _ => exact hv

theorem giveBack_b {ob ob1 : OB} {d : DV} {x : Bool} (h : giveBack ob d = some (.b x, ob1)) : d = .b x := by
  cases d with
  | b y => simp only [giveBack, Option.some.injEq, Prod.mk.injEq] at h; exact h.1
  | _ =>
    exfalso
    unfold giveBack at h
    repeat' (first | (simp at h; done) | (simp_all; done) | split at h)

/-- A law that says yes. -/
theorem law_calls {P : Program} {f : FuncId} {args : List DV} {cs : List DV} {vs : Array Value} {w : World} (h : CallSpec P f args (.b true, cs)) (hE : Entry w (fun _ => True) [] (fun _ => none) args vs) :
    Calls P f vs w fun e w' => e = .returned (.bool true) ∧ Below w.heap.size w w' := by
  refine (h w _ _ _ vs hE).mono fun e w' ⟨v, he, O, ob, ob2, raws, vals, rs, hm, hl, hvr, hv, hgb, _, hr⟩ => ?_
  subst he
  refine ⟨?_, ⟨hm.os, hm.tape, hm.output, hm.size, fun k hk => hm.frame k hk (fun r hr => (by cases hr))⟩⟩
  obtain ⟨_, gnt, glen⟩ := giveBackL_sub hgb
  match rs, glen, hr with
  | [x], glen, hr =>
    match raws, glen with
    | [d0], _ =>
      match vals, hl with
      | [u], _ =>
        simp only [giveBackL] at hgb
        split at hgb
        · rename_i e1 ob1 hg1
          injection hgb with hgb
          simp only [Prod.mk.injEq, List.cons.injEq, and_true] at hgb
          obtain ⟨rfl, rfl⟩ := hgb
          have hx : e1 = .b true := hr.symm
          subst hx
          have hd := giveBack_b hg1
          subst hd
          have hu := (hvr 0 _ u rfl rfl).bool
          rw [hv]
          show Ending.returned u = _
          rw [hu]
        · cases hgb
  | [], _, hr => cases hr
  | _ :: _ :: _, _, hr => cases hr
end Go.Lg
