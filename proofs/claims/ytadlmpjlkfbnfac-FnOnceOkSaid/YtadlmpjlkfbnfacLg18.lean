/- Part 18 of a logical reading of translated Go: what a frame holds is said by lists, and each operation is proved against the model. No conditions. -/
import Derived.Test.YtadlmpjlkfbnfacLg17
namespace Go.Lg
set_option linter.unusedSimpArgs false
set_option linter.unusedVariables false
open Go.RowKit
set_option linter.unusedVariables false

def viewRes (P : Program) : List ResultVar → Option (List ResL)
  | [] => some []
  | .tmp t :: rs => (viewRes P rs).map (.t t :: ·)
  | .cell a t :: rs => match loadInfo P t with
    | some (n, g) => (viewRes P rs).map (.c a n g :: ·)
    | none => none

def single (rs : List DV) : DV := match rs with
  | [r] => r
  | rs => .tup rs
def singleV (vs : List Value) : Value := match vs with
  | [v] => v
  | vs => .tuple vs.toArray

structure Entry (w : World) (ok0 : Nat → Prop) (refs : List (Nat × PO)) (O : OM) (args : List DV) (vs : Array Value) : Prop where
  size : vs.size = args.length
  mem : MR ⟨w, ok0, refs⟩ O (enter 0 args ⟨[], []⟩).ob w
  args : ∀ j, VR w w.heap.size (okb ok0 w.heap.size O) O (look (enter 0 args ⟨[], []⟩).sl j) (vs.getD j undef)
  seven : ∀ r ∈ refs, r.1 % 8 = 7

def Ret (c : Cx) (args : List DV) (r : DV × List DV) (v : Value) (w' : World) : Prop :=
  ∃ (O : OM) (ob ob2 : OB) (raws : List DV) (vals : List Value) (rs : List DV), MR c O ob w' ∧ raws.length = vals.length ∧ (∀ (j : Nat) (d : DV) (u : Value), raws[j]? = some d → vals[j]? = some u → VR w' c.B (okb c.ok0 c.B O) O d u) ∧
    v = singleV vals ∧ giveBackL ob raws = some (rs, ob2) ∧ outs ob2 0 args = some r.2 ∧ r.1 = single rs

def CallSpec (P : Program) (f : FuncId) (args : List DV) (r : DV × List DV) : Prop :=
  ∀ (w : World) (ok0 : Nat → Prop) (refs : List (Nat × PO)) (O : OM) (vs : Array Value), Entry w ok0 refs O args vs → Calls P f vs w fun e w' => ∃ v, e = .returned v ∧ Ret ⟨w, ok0, refs⟩ args r v w'

def FnSound (P : Program) (Γ : Fns) : Prop := ∀ f args r, Γ f args = some r → hasBody P f = true ∧ CallSpec P f args r

/-- The reading of a function is that of the translation. -/
structure OkF (P : Program) (dc : Array Oper → Bool) (f : FuncId) (F : LF) : Prop where
  ok : ∃ (fn : Func) (code : Code), P.funcs[f]? = some fn ∧ fn.body = some code ∧ (fn.name == "runtime.NumGoroutine") = false ∧ viewC P code = some (strip F.body) ∧ okC fn.ntmps dc code = true ∧ F.nparams ≤ fn.ntmps ∧ viewRes P fn.results.toList = some F.results

section
variable {P : Program} {Γ : Fns} {c : Cx} {N : Nat}

theorem load_any {fr : Nat → Bool} {w : World} {O : OM} {ob ob' : OB} (hm : MR c O ob w) {t : TypeId} {n : Nat} {g : Bool} (hli : loadInfo P t = some (n, g)) {d0 d : DV} {v0 : Value} (hx : VR w c.B (okb c.ok0 c.B O) O d0 v0) (he : effP fr (.load n g) [d0] ob = some (d, ob')) :
    ∃ ad v, v0 = .pointer (some ad) ∧ (loadVar t ad).run P w = .ok v w ∧ VR w c.B (okb c.ok0 c.B O) O d v := by
  have key : ∃ v, (execOp (fun _ => v0) ⟨none, .load t (.tmp 0), t, "", #[], none⟩).run P w = .ok (.value v) w ∧ VR w c.B (okb c.ok0 c.B O) O d v := by
    obtain ⟨h1, h2, h3⟩ := loadInfo_some hli
    simp only [effP] at he
    split at he
    · rename_i heq; simp only [List.cons.injEq, and_true] at heq; subst heq
      simp only [Option.map_eq_some_iff, Prod.mk.injEq] at he
      obtain ⟨e, hp, rfl, rfl⟩ := he
      rename_i d1
      have hde : e = d1 := by
        split at hp
        · split at hp
          · injection hp with hp; exact hp.symm
          · cases hp
        · split at hp
          · cases hp
          · injection hp with hp; exact hp.symm
      subst hde
      obtain ⟨ad, xs, hv, _, _, hcell, hc⟩ := hx.adr'
      obtain ⟨v, hr, hvr⟩ := load_ok (c := c) (O := O) h1 h2 h3 ad hcell hc (fun ha => by
        subst ha
        cases e <;> simp at hp
        exact ⟨_, rfl, hp⟩) (fun ha => by
        subst ha
        cases e <;> simp at hp <;> rfl)
      exact ⟨v, by simp only [execOp, hv, Sem.run_bind, hr, Result.andThen_ok]; rfl, hvr⟩
    · rename_i k0 n0 a0 o0 heq; simp only [List.cons.injEq, and_true] at heq; subst heq
      split at he
      · rename_i es hl
        split at he
        · rename_i hn
          split at he
          · rename_i e hget
            simp only [Option.map_eq_some_iff, Prod.mk.injEq] at he
            obtain ⟨e', hp, rfl, rfl⟩ := he
            obtain ⟨p, gb, hO, hpl, hgb, hv, hor⟩ := hx.oad_cur hm hl hn
            obtain ⟨xs, hcr, hcell⟩ := hor.elem hget hgb
            obtain ⟨q1, q2, q3⟩ := part_ok hcr hp h3
            obtain ⟨v, hr, hvr⟩ := load_ok (c := c) (O := O) h1 h2 h3 ⟨gb, a0 * p.sz + o0, none⟩ (d := e') (xs := (xs.drop o0).take n) (fun j u hu => by
              rw [List.getElem?_take] at hu
              split at hu
              · rw [List.getElem?_drop] at hu
                rw [add_plain', Nat.add_assoc]
                exact hcell _ u hu
              · cases hu) q1 (fun ha => by
              obtain ⟨cs, rfl⟩ := q2 ha
              simp only at ha
              subst ha
              unfold part at hp
              simp only [if_true] at hp
              split at hp
              · injection hp with hp
                injection hp with hp
                exact ⟨cs, rfl, by rw [← hp]; simp; omega⟩
              · cases hp) q3
            exact ⟨v, by simp only [execOp, hv, Sem.run_bind, hr, Result.andThen_ok]; rfl, hvr⟩
          · cases he
        · cases he
      · cases he
    · cases he
  obtain ⟨v, hr, hv⟩ := key
  have hp : ∃ ad, v0 = .pointer (some ad) := by
    simp only [effP] at he
    split at he
    · rename_i heq; simp only [List.cons.injEq, and_true] at heq; subst heq
      obtain ⟨ad, _, h, _⟩ := hx.adr'; exact ⟨ad, h⟩
    · rename_i heq; simp only [List.cons.injEq, and_true] at heq; subst heq
      obtain ⟨ad, h, _⟩ := hx.oad'; exact ⟨ad, h⟩
    · cases he
  obtain ⟨ad, rfl⟩ := hp
  refine ⟨ad, v, rfl, ?_, hv⟩
  have : (execOp (fun _ => .pointer (some ad)) ⟨none, .load t (.tmp 0), t, "", #[], none⟩).run P w = ((loadVar t ad).run P w).andThen fun v w' => .ok (.value v) w' := by
    simp only [execOp, Instr.loadAt, Instr.sureAddr, Sem.run_bind, Sem.run_pure, Result.andThen_ok]
  rw [this] at hr
  cases hl : (loadVar t ad).run P w with
  | ok u w1 =>
    rw [hl] at hr
    simp only [Result.andThen_ok, Result.ok.injEq, Next.value.injEq] at hr
    obtain ⟨rfl, rfl⟩ := hr
    rfl
  | halt h w1 => rw [hl] at hr; simp at hr

theorem res_one {S : LS} {a : Act} {w : World} {O : OM} (hm : MR c O S.ob w) (hsr : SR w c.B (okb c.ok0 c.B O) O S.sl a) : ∀ {rvs : List ResultVar} {rls : List ResL} {vs : List DV}, viewRes P rvs = some rls → resV S rls = some vs →
    ∃ vals, (rvs.mapM (m := Sem) fun | .tmp t => pure (a.tmps.getD t undef) | .cell b t => do loadVar t (← asAddr (a.tmps.getD b undef))).run P w = .ok vals w ∧ vs.length = vals.length ∧
      ∀ (j : Nat) (d : DV) (u : Value), vs[j]? = some d → vals[j]? = some u → VR w c.B (okb c.ok0 c.B O) O d u
  | [], rls, vs, hv, hr => by
    simp only [viewRes, Option.some.injEq] at hv
    subst hv
    simp only [resV, Option.some.injEq] at hr
    subst hr
    exact ⟨[], rfl, rfl, by simp⟩
  | .tmp t :: rvs, rls, vs, hv, hr => by
    simp only [viewRes, Option.map_eq_some_iff] at hv
    obtain ⟨rls', h1, rfl⟩ := hv
    simp only [resV, Option.map_eq_some_iff] at hr
    obtain ⟨vs', h2, rfl⟩ := hr
    obtain ⟨vals, h3, h4, h5⟩ := res_one hm hsr h1 h2
    refine ⟨a.tmps.getD t undef :: vals, ?_, by simp [h4], fun j d u hd hu => ?_⟩
    · rw [List.mapM_cons]
      simp only [Sem.run_bind, Sem.run_pure, Result.andThen_ok, h3]
    · cases j with
      | zero => simp only [List.getElem?_cons_zero, Option.some.injEq] at hd hu; subst hd; subst hu; exact hsr t
      | succ j => simp only [List.getElem?_cons_succ] at hd hu; exact h5 j d u hd hu
  | .cell b t :: rvs, rls, vs, hv, hr => by
    simp only [viewRes] at hv
    split at hv
    · rename_i n g hli
      simp only [Option.map_eq_some_iff] at hv
      obtain ⟨rls', h1, rfl⟩ := hv
      simp only [resV] at hr
      split at hr
      · rename_i d0 ob0 heff
        simp only [Option.map_eq_some_iff] at hr
        obtain ⟨vs', h2, rfl⟩ := hr
        obtain ⟨vals, h3, h4, h5⟩ := res_one hm hsr h1 h2
        obtain ⟨ad, v, hp, hrun, hvr⟩ := load_any hm hli (hsr b) heff
        refine ⟨v :: vals, ?_, by simp [h4], fun j d u hd hu => ?_⟩
        · have hA : (asAddr (a.tmps.getD b undef)).run P w = .ok ad w := by rw [hp]; rfl
          rw [List.mapM_cons]
          simp only [Sem.run_bind, hA, Sem.run_pure, Result.andThen_ok, hrun, h3]
        · cases j with
          | zero => simp only [List.getElem?_cons_zero, Option.some.injEq] at hd hu; subst hd; subst hu; exact hvr
          | succ j => simp only [List.getElem?_cons_succ] at hd hu; exact h5 j d u hd hu
      · cases hr
    · cases hv

theorem run_results {fn : Func} {S : LS} {a : Act} {w : World} {O : OM} (hm : MR c O S.ob w) (hsr : SR w c.B (okb c.ok0 c.B O) O S.sl a) {rls : List ResL} {vs : List DV} (hv : viewRes P fn.results.toList = some rls) (hr : resV S rls = some vs) :
    ∃ vals, (results fn a.tmps).run P w = .ok (singleV vals) w ∧ vs.length = vals.length ∧ ∀ (j : Nat) (d : DV) (u : Value), vs[j]? = some d → vals[j]? = some u → VR w c.B (okb c.ok0 c.B O) O d u := by
  obtain ⟨vals, h1, h2, h3⟩ := res_one hm hsr hv hr
  refine ⟨vals, ?_, h2, h3⟩
  unfold results
  rw [Array.mapM_eq_mapM_toList]
  rw [Sem.run_bind, Sem.run_map]
  erw [h1]
  simp only [Result.andThen_ok, Sem.run_pure]
  congr 1
  unfold singleV
  match vals with
  | [] => rfl
  | [v] => rfl
  | v :: u :: l => simp

theorem call_spec (hΓ : CallOk P Γ) {dc : Array Oper → Bool} (hD : DrawOk P Γ dc) {n : Nat} {f : Nat} {F : LF} (hF : OkF P dc f F) {args : List DV} (hl : args.length = F.nparams) {x : Ex} {S : LS} (hx : x = .normal ∨ x = .ret) (he : exec Γ n F.body (enter 0 args ⟨[], []⟩) = some (x, S))
    {r : DV × List DV} (hr : leave F args S = some r) : hasBody P f = true ∧ CallSpec P f args r := by
  obtain ⟨fn, code, hfn, hb, hne, hv, hok, hnp, hres⟩ := hF.ok
  refine ⟨by simp [hasBody, hfn, hb, hne], fun w ok0 refs O vs hE => ?_⟩
  refine calls_of_wp hfn hb ?_
  have hsize : vs.size ≤ fn.ntmps := by rw [hE.size, hl]; exact hnp
  have hst : St ⟨w, ok0, refs⟩ fn.ntmps (enter 0 args ⟨[], []⟩) { tmps := vs ++ Array.replicate (fn.ntmps - vs.size) undef, defers := [] } w := by
    refine ⟨O, hE.mem, fun t => ?_, rfl, by simp; omega⟩
    have := hE.args t
    have e : (vs ++ Array.replicate (fn.ntmps - vs.size) undef).getD t undef = vs.getD t undef := by
      simp only [Array.getD_eq_getD_getElem?]
      by_cases ht : t < vs.size
      · rw [Array.getElem?_append_left ht]
      · rw [Array.getElem?_append_right (by omega), Array.getElem?_eq_none (by omega : vs.size ≤ t)]
        by_cases h2 : t - vs.size < fn.ntmps - vs.size
        · simp [Array.getElem?_replicate, h2]
        · simp [Array.getElem?_replicate, h2]
    rw [e]
    exact this
  refine exec_ok hΓ hD hE.seven F.body code hv hok hst he (fun a' w' hs' => ?_)
  have fin : a'.defers = [] ∧ ∃ v, (results fn a'.tmps).run P w' = .ok v w' ∧ ∃ v', Ending.returned v = Ending.returned v' ∧ Ret ⟨w, ok0, refs⟩ args r v' w' := by
    obtain ⟨O', hm', hsr', hdf, _⟩ := hs'
    refine ⟨hdf, ?_⟩
    unfold leave at hr
    split at hr
    · cases hr
    · rename_i raws hraws
      split at hr
      · cases hr
      · rename_i rs ob2 hgb
        split at hr
        · cases hr
        · rename_i cs hcs
          injection hr with hr
          obtain ⟨vals, h1, h2, h3⟩ := run_results hm' hsr' hres hraws
          refine ⟨_, h1, _, rfl, O', S.ob, ob2, raws, vals, rs, hm', h2, h3, rfl, hgb, ?_, ?_⟩
          · rw [← hr]; exact hcs
          · rw [← hr]; rfl
  rcases hx with rfl | rfl
  · exact fin
  · exact fin
end
end Go.Lg
