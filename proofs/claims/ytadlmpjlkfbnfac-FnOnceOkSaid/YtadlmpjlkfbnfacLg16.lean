/- Part 16 of a logical reading of translated Go: what a frame holds is said by lists, and each operation is proved against the model. No conditions. -/
import Derived.Test.YtadlmpjlkfbnfacLg15
import Derived.LoopN
namespace Go.Lg
open Go.RowKit
set_option linter.unusedVariables false

def Opx (x : Option Nat) (N : Nat) : Bool := match x with | some d => decide (d < N) | none => true

/-- The state of a frame, said. -/
def St (c : Cx) (N : Nat) (S : LS) (a : Act) (w : World) : Prop :=
  ∃ O, MR c O S.ob w ∧ SR w c.B (okb c.ok0 c.B O) O S.sl a ∧ a.defers = [] ∧ a.tmps.size = N

def hasBody (P : Program) (f : FuncId) : Bool := match P.funcs[f]? with
  | some fn => fn.body.isSome && !(fn.name == "runtime.NumGoroutine")
  | none => false

/-- A callee is as it is said to be, wherever it is called. -/
def CallOk (P : Program) (Γ : Fns) : Prop := ∀ (c : Cx) (fr : Nat → Bool) (w : World) (O : OM) (ob ob' : OB) (f id : Nat) (vs : Array Value) (ds : List DV) (d : DV), MR c O ob w → Fresh c fr → ds.length = vs.size →
  (∀ (j : Nat) (d : DV) (v : Value), ds[j]? = some d → vs[j]? = some v → VR w c.B (okb c.ok0 c.B O) O d v) → callD Γ fr f id ds ob = some (d, ob') → hasBody P f = true ∧
  Calls P f vs w fun e w' => ∃ v O', e = .returned v ∧ MR c O' ob' w' ∧ VR w' c.B (okb c.ok0 c.B O') O' d v ∧ Tr c.ok0 c.B (fun id => fr id = true) w O w' O'

section
variable {P : Program} {Γ : Fns} {c : Cx} {N : Nat}

theorem getD_put (a : Act) (d t : Nat) (v : Value) (hd : d < a.tmps.size) : (a.put (some d) v).tmps.getD t undef = if t = d then v else a.tmps.getD t undef := by
  simp only [Act.put, Array.getD_eq_getD_getElem?, Array.getElem?_setIfInBounds]
  by_cases h : d = t
  · subst h; simp [hd]
  · simp [h, Ne.symm h]

theorem mentions_of {e : Env} {id : Nat} (h : Env.mentions id e = false) (t : Nat) : (look e t).mentions id = false := by
  induction e with
  | nil => rfl
  | cons p r ih =>
    obtain ⟨k, d⟩ := p
    simp only [Env.mentions, List.any_cons, Bool.or_eq_false_iff] at h
    simp only [look]
    split
    · exact h.1
    · exact ih (by simpa [Env.mentions] using h.2)

theorem SR.put {w : World} {B : Nat} {ok : Nat → Prop} {O : OM} {e : Env} {a : Act} (h : SR w B ok O e a) {d : Option Nat} {dv : DV} {v : Value} (hv : VR w B ok O dv v) (hd : ∀ x, d = some x → x < a.tmps.size) :
    SR w B ok O (putD e d dv) (a.put d v) := by
  cases d with
  | none => exact h
  | some x =>
    intro t
    show VR w B ok O (look (Lg.put e x dv) t) _
    rw [look_put, getD_put a x t v (hd x rfl)]
    split
    · exact hv
    · exact h t

theorem put_size (a : Act) (d : Option Nat) (v : Value) : (a.put d v).tmps.size = a.tmps.size := by cases d <;> simp [Act.put]
theorem put_defers (a : Act) (d : Option Nat) (v : Value) : (a.put d v).defers = a.defers := by cases d <;> rfl

theorem viewBin_call {op : BinOp} {t f id : Nat} : viewBin P op t ≠ some (.call f id) := by
  intro h
  unfold viewBin at h
  split at h <;> try (cases h; done)
  · split at h <;> cases h
  · split at h
    · split at h <;> cases h
    · cases h
theorem viewConv_call {s t d f id : Nat} : viewConv P s t d ≠ some (.call f id) := by
  intro h
  unfold viewConv at h
  split at h <;> cases h
theorem viewK_call {o : Oper} {f id : Nat} {xs : List Operand} (hv : viewK P o = some (.call f id, xs)) : ∃ cl, o.op = .call cl ∧ cl.callee = .value (.func f) ∧ xs = cl.args.toList := by
  cases hop : o.op with
  | call cl =>
    refine ⟨cl, rfl, ?_⟩
    simp only [viewK, hop, viewCall] at hv
    split at hv
    · rename_i g hcal
      split at hv
      · injection hv with hv; simp only [Prod.mk.injEq, Lg.K.call.injEq] at hv; obtain ⟨⟨rfl, _⟩, rfl⟩ := hv; exact ⟨hcal, rfl⟩
      · injection hv with hv; simp only [Prod.mk.injEq, Lg.K.call.injEq] at hv; obtain ⟨⟨rfl, _⟩, rfl⟩ := hv; exact ⟨hcal, rfl⟩
    · repeat' (first | (simp at hv; done) | split at hv)
    · repeat' (first | (simp at hv; done) | split at hv)
    · repeat' (first | (simp at hv; done) | split at hv)
    · repeat' (first | (simp at hv; done) | split at hv)
    · cases hv
  | binOp op t x y yt =>
    simp only [viewK, hop, Option.map_eq_some_iff, Prod.mk.injEq] at hv
    obtain ⟨k', hk, rfl, _⟩ := hv
    exact absurd hk viewBin_call
  | convert s t x =>
    simp only [viewK, hop] at hv
    split at hv
    · simp only [Option.map_eq_some_iff, Prod.mk.injEq] at hv
      obtain ⟨k', hk, rfl, _⟩ := hv
      exact absurd hk viewConv_call
    · cases hv
  | _ =>
    exfalso
    simp only [viewK, hop] at hv
    repeat' (first | (simp at hv; done) | split at hv)

/-- One operation, carried out. -/
theorem step_run (hΓ : CallOk P Γ) (hF : ∀ r ∈ c.refs, r.1 % 8 = 7) {o : Oper} {k : K} {xs : List Operand} {ys : List Opd} (hv : viewK P o = some (k, xs)) (hys : viewOpds xs = some ys) (hN : Opx o.dst N = true) {S : LS} {a : Act} {w : World} (hs : St c N S a w)
    {d : DV} {ob' : OB} (he : eff Γ (fun id => !(id % 8 == 7) && !Env.mentions id S.sl) k (ys.map S.get) S.ob = some (d, ob')) {KK : Act → World → Prop} {Q : Exit → Act → World → Prop}
    (hK : ∀ a' w', St c N { sl := putD S.sl o.dst d, ob := ob' } a' w' → KK a' w') : o.wp P a w KK Q := by
  obtain ⟨O, hm, hsr, hdf, hsz⟩ := hs
  have hfr : Fresh c (fun id => !(id % 8 == 7) && !Env.mentions id S.sl) := ⟨fun id h => by simp at h; exact h.1, hF⟩
  have hA := Args.of_view (c := c) hsr hys
  have hdst : ∀ x, o.dst = some x → x < a.tmps.size := fun x hx => by rw [hx] at hN; rw [hsz]; simpa [Opx] using hN
  have fin : ∀ {v : Value} {w' : World} {O' : OM}, MR c O' ob' w' → VR w' c.B (okb c.ok0 c.B O') O' d v → Tr c.ok0 c.B (fun id => (!(id % 8 == 7) && !Env.mentions id S.sl) = true) w O w' O' → KK (a.put o.dst v) w' := by
    intro v w' O' hm' hv' ht
    have hsr' : SR w' c.B (okb c.ok0 c.B O') O' S.sl a := fun t => (hsr t).tr ht (fun id hid => mentions_of (by simp at hid; exact hid.2) t)
    exact hK _ _ ⟨O', hm', hsr'.put hv' hdst, by rw [put_defers]; exact hdf, by rw [put_size]; exact hsz⟩
  by_cases hcall : ∃ f id, k = Lg.K.call f id
  · obtain ⟨f, id, rfl⟩ := hcall
    simp only [eff] at he
    have hop := viewK_call hv
    obtain ⟨cl, hop, hcal, rfl⟩ := hop
    obtain ⟨hb, hc⟩ := hΓ c _ w O S.ob ob' f id (cl.args.map a.eval) (ys.map S.get) d hm hfr (by rw [hA.1]; simp) (fun j d v hd hv => by
      rw [Array.getElem?_map, Option.map_eq_some_iff] at hv
      obtain ⟨x, hx, rfl⟩ := hv
      exact hA.2 j d x hd (by simpa using hx)) he
    unfold hasBody at hb
    split at hb
    · rename_i fn hfn
      simp only [Bool.and_eq_true, Bool.not_eq_true'] at hb
      have hrun : (execOp a.eval o).run P w = .ok (.enter f (cl.args.map a.eval)) w := by
        have hbn : ¬ fn.body = none := by intro h; rw [h] at hb; simp at hb
        have hne : ¬ fn.name = "runtime.NumGoroutine" := by have := hb.2; simpa using this
        simp [execOp, hop, resolve, hcal, Act.eval, Deferred.ofValue, invoke, callFunc, hfn, hne, hbn]
      unfold Oper.wp
      rw [hrun, Oper.upon_enter]
      refine hc.mono fun e w' ⟨v, O', he, hm', hv', ht⟩ => ?_
      subst he
      exact fin hm' hv' ht
    · cases hb
  · have he' : effP (fun id => !(id % 8 == 7) && !Env.mentions id S.sl) k (ys.map S.get) S.ob = some (d, ob') := by
      unfold eff at he
      split at he
      · rename_i f id; exact absurd ⟨f, id, rfl⟩ hcall
      · exact he
    obtain ⟨v, w', O', hr, hm', hv', ht⟩ := effP_ok hm hfr hv hA he'
    unfold Oper.wp
    rcases hr with hr | ⟨hr, rfl⟩
    · rw [hr]; exact fin hm' hv' ht
    · rw [hr]; exact fin hm' hv' ht
end
end Go.Lg
