/- Part 17 of a logical reading of translated Go: what a frame holds is said by lists, and each operation is proved against the model. No conditions. -/
import Derived.Test.YtadlmpjlkfbnfaaLg16
namespace Go.Lg
open Go.RowKit
set_option linter.unusedVariables false

/-- Nothing but slots and objects that are left; kills and what only the reading knows of are left out. -/
def strip : LC → LC
  | .skip => .skip
  | .ret => .ret
  | .exit id => .exit id
  | .region d ops _ => .region d ops []
  | .seq a b => .seq (strip a) (strip b)
  | .cond c _ x y => .cond c [] (strip x) (strip y)
  | .block id b => .block id (strip b)
  | .loop b => .loop (strip b)
  | .ghost _ c => strip c

def viewC (P : Program) : Code → Option LC
  | .skip => some .skip
  | .ret => some .ret
  | .exit id => some (.exit id)
  | .region _ ops d => (viewOps P ops ops.toList).map fun ls => .region d ls []
  | .seq a b => match viewC P a with
    | some x => match viewC P b with
      | some y => some (.seq x y)
      | none => none
    | none => none
  | .cond c a b => match viewOpd c with
    | some q => match viewC P a with
      | some x => match viewC P b with
        | some y => some (.cond q [] x y)
        | none => none
      | none => none
    | none => none
  | .block id b => (viewC P b).map (.block id ·)
  | .loop b => (viewC P b).map .loop
  | _ => none

/-- Every slot that is written lies within the frame; every region that draws passes a look. -/
def okC (N : Nat) (dc : Array Oper → Bool) : Code → Bool
  | .region _ ops d => ops.toList.all (fun o => Opx o.dst N) && (!d || dc ops)
  | .seq a b | .cond _ a b => okC N dc a && okC N dc b
  | .block _ b | .loop b => okC N dc b
  | _ => true

def Ex.to : Ex → Exit
  | .normal => .normal
  | .exit id => .exit id
  | .ret => .ret

section
variable {P : Program} {Γ : Fns} {c : Cx} {N : Nat}

theorem St.less {S : LS} {a : Act} {w : World} (h : St c N S a w) (f : Nat → Bool) (e : Env) (he : ∀ t, look e t = look S.sl t ∨ look e t = .dead) : St c N { sl := e, ob := S.ob.filter fun p => f p.1 } a w := by
  obtain ⟨O, hm, hs, h1, h2⟩ := h
  obtain ⟨hm', ht⟩ := hm.less f
  refine ⟨_, hm', fun t => ?_, h1, h2⟩
  rcases he t with h | h
  · rw [h]; exact (hs t).tr ht (fun _ h => h.elim)
  · rw [h]; exact .dead _
theorem St.drop {S : LS} {a : Act} {w : World} (h : St c N S a w) (kill : List Nat) : St c N (S.drop kill) a w := by
  unfold LS.drop
  split
  · exact h
  · refine h.less (fun k => Env.mentions k (killE kill S.sl)) _ (fun t => ?_)
    rw [look_kill]
    split
    · exact .inr rfl
    · exact .inl rfl

theorem und_not_bool {w : World} {B : Nat} {ok : Nat → Prop} {O : OM} {v : Value} (h : VR w B ok O .und v) : v = undef := by
  cases h with
  | cr _ _ h => cases h
  | und => rfl

theorem yielded_of {ops : Array Oper} {j t : Nat} {a : Act} (h : slotOf ops j = some t) : (∀ b, a.tmps.getD t undef = .bool b → yielded ops a.tmps j = some b) ∧ (a.tmps.getD t undef = undef → yielded ops a.tmps j = none) := by
  unfold slotOf at h
  unfold yielded
  rw [h]
  simp only [Option.bind_some, Array.getD_eq_getD_getElem?]
  cases hx : a.tmps[t]? with
  | none => simp [undef]
  | some v => cases v <;> simp [undef]

/-- One operation at its place in a region. -/
theorem stepL_ok (hΓ : CallOk P Γ) (hF : ∀ r ∈ c.refs, r.1 % 8 = 7) {ops : Array Oper} {o : Oper} {l : LOp} (hv : viewOp P ops o = some l) (hN : Opx o.dst N = true) {S S1 : LS} {a : Act} {w : World} (hs : St c N S a w) (he : stepL Γ l S = some S1)
    {KK : Act → World → Prop} {Q : Exit → Act → World → Prop} (hK : ∀ a' w', St c N S1 a' w' → KK a' w') :
    if Region.wanted o (yielded ops a.tmps) = true then o.wp P a w KK Q else KK (a.put o.dst undef) w := by
  unfold viewOp at hv
  split at hv
  · rename_i k xs hk
    split at hv
    · rename_i ys hys
      have hskip : ∀ {S1 : LS}, S1 = { S with sl := putD S.sl o.dst .und } → (∀ a' w', St c N S1 a' w' → KK a' w') → KK (a.put o.dst undef) w := by
        rintro S1 rfl hK
        obtain ⟨O, hm, hsr, hdf, hsz⟩ := hs
        refine hK _ _ ⟨O, hm, hsr.put .und (fun x hx => by rw [hx] at hN; rw [hsz]; simpa [Opx] using hN), by rw [put_defers]; exact hdf, by rw [put_size]; exact hsz⟩
      have hgo : ∀ {d : DV} {ob : OB}, eff Γ (fun id => !(id % 8 == 7) && !Env.mentions id S.sl) k (ys.map S.get) S.ob = some (d, ob) → S1 = { sl := putD S.sl o.dst d, ob := ob } → o.wp P a w KK Q := by
        rintro d ob h rfl
        exact step_run hΓ hF hk hys hN hs h hK
      split at hv
      · rename_i hg
        injection hv with hv
        subst hv
        rw [if_pos (by simp [Region.wanted, hg])]
        simp only [stepL] at he
        split at he
        · rename_i d ob heff
          injection he with he
          exact hgo heff he.symm
        · cases he
      · rename_i j want hg
        split at hv
        · rename_i t ht
          injection hv with hv
          subst hv
          obtain ⟨y1, y2⟩ := yielded_of (a := a) ht
          obtain ⟨O, hm, hsr, hdf, hsz⟩ := id hs
          have ht' := hsr t
          simp only [stepL] at he
          split at he
          · rename_i b hb
            rw [hb] at ht'
            have hy := y1 b ht'.bool
            split at he
            · rename_i hbw
              rw [if_pos (by simp [Region.wanted, hg, hy, hbw])]
              split at he
              · rename_i d ob heff
                injection he with he
                exact hgo heff he.symm
              · cases he
            · rename_i hbw
              injection he with he
              rw [if_neg (by simp [Region.wanted, hg, hy, hbw])]
              exact hskip he.symm hK
          · rename_i hb
            rw [hb] at ht'
            have hy := y2 (und_not_bool ht')
            injection he with he
            rw [if_neg (by simp [Region.wanted, hg, hy])]
            exact hskip he.symm hK
          · cases he
        · cases hv
    · cases hv
  · cases hv

theorem runL_ok (hΓ : CallOk P Γ) (hF : ∀ r ∈ c.refs, r.1 % 8 = 7) {ops : Array Oper} {Q : Exit → Act → World → Prop} : ∀ {os : List Oper} {ls : List LOp} {S S1 : LS} {a : Act} {w : World}, viewOps P ops os = some ls → (∀ o ∈ os, Opx o.dst N = true) → St c N S a w →
    runL Γ ls S = some S1 → (∀ a' w', St c N S1 a' w' → Q .normal a' w') → wpList P ops Q os a w
  | [], ls, S, S1, a, w, hv, _, hs, he, hQ => by
    simp only [viewOps, Option.some.injEq] at hv
    subst hv
    simp only [runL, Option.some.injEq] at he
    subst he
    exact wpList_nil (hQ _ _ hs)
  | o :: os, ls, S, S1, a, w, hv, hN, hs, he, hQ => by
    simp only [viewOps] at hv
    split at hv
    · rename_i l hl
      split at hv
      · rename_i ls' hls
        injection hv with hv
        subst hv
        simp only [runL] at he
        split at he
        · rename_i S2 h2
          refine wpList_step (fun K hK => ?_)
          exact stepL_ok hΓ hF hl (hN o (List.mem_cons_self ..)) hs h2 (fun a' w' hs' => hK _ _ (runL_ok hΓ hF hls (fun x hx => hN x (List.mem_cons_of_mem _ hx)) hs' he hQ))
        · cases he
      · cases hv
    · cases hv

/-- What is asked of the regions that draw their order. -/
def DrawOk (P : Program) (Γ : Fns) (dc : Array Oper → Bool) : Prop := ∀ (c : Cx) (N id : Nat) (ops : Array Oper) (ls : List LOp) (S S1 : LS) (a : Act) (w : World) (Q : Exit → Act → World → Prop), dc ops = true → (∀ r ∈ c.refs, r.1 % 8 = 7) → viewOps P ops ops.toList = some ls →
  (∀ o ∈ ops.toList, Opx o.dst N = true) → St c N S a w → runR Γ true ls S = some S1 → (∀ a' w', St c N S1 a' w' → Q .normal a' w') → (Code.region id ops true).wp P Q a w

theorem ghost_ok {g : Ghost} {S S1 : LS} {a : Act} {w : World} (hF : ∀ r ∈ c.refs, r.1 % 8 = 7) (h : St c N S a w) (he : ghostL g S = some S1) : St c N S1 a w := by
  cases g with
  | freeze t =>
    simp only [ghostL] at he
    split at he
    · rename_i k n lo hi hl
      split at he
      · rename_i es hes
        split at he
        · cases he
        · rename_i hk7
          injection he with he
          subst he
          obtain ⟨O, hm, hs, h1, h2⟩ := h
          have hv := hs t
          rw [hl] at hv
          have hset : settle S.ob (.own k n lo hi) = some (.sl 1 es, dropO S.ob k) := by simp only [settle, hes, hk7]; rfl
          obtain ⟨O', hm', ht, _, hcr, _, _⟩ := settle_ok hm hv hset
          refine ⟨O', hm', fun t' => ?_, h1, h2⟩
          show VR w c.B (okb c.ok0 c.B O') O' (look (put S.sl t (.sl 1 es)) t') (a.tmps.getD t' undef)
          rw [look_put]
          split
          · rename_i htt
            subst htt
            rcases hcr with ⟨cs, hcs⟩ | hcr
            · cases hcs
            · exact .cr _ _ hcr
          · exact (hs t').tr ht (fun _ h => h.elim)
      · cases he
    · cases he
  | promote t id => simp [ghostL] at he

theorem exec_ok (hΓ : CallOk P Γ) {dc : Array Oper → Bool} (hD : DrawOk P Γ dc) (hF : ∀ r ∈ c.refs, r.1 % 8 = 7) {n : Nat} : ∀ (lc : LC) (code : Code) {S S1 : LS} {x : Ex} {a : Act} {w : World} {Q : Exit → Act → World → Prop}, viewC P code = some (strip lc) → okC N dc code = true →
    St c N S a w → exec Γ n lc S = some (x, S1) → (∀ a' w', St c N S1 a' w' → Q x.to a' w') → code.wp P Q a w
  | .ghost g lc, code, S, S1, x, a, w, Q, hv, hok, hs, he, hQ => by
    simp only [exec] at he
    split at he
    · rename_i S2 h2
      exact exec_ok hΓ hD hF lc code hv hok (ghost_ok hF hs h2) he hQ
    · cases he
  | .skip, code, S, S1, x, a, w, Q, hv, hok, hs, he, hQ => by
    simp only [exec, Option.some.injEq, Prod.mk.injEq] at he
    obtain ⟨rfl, rfl⟩ := he
    cases code <;> simp only [viewC, strip] at hv <;> try (repeat' (first | (simp at hv; done) | split at hv))
    exact wp_skip (hQ _ _ hs)
  | .ret, code, S, S1, x, a, w, Q, hv, hok, hs, he, hQ => by
    simp only [exec, Option.some.injEq, Prod.mk.injEq] at he
    obtain ⟨rfl, rfl⟩ := he
    cases code <;> simp only [viewC, strip] at hv <;> try (repeat' (first | (simp at hv; done) | split at hv))
    exact wp_ret (hQ _ _ hs)
  | .exit id, code, S, S1, x, a, w, Q, hv, hok, hs, he, hQ => by
    simp only [exec, Option.some.injEq, Prod.mk.injEq] at he
    obtain ⟨rfl, rfl⟩ := he
    cases code <;> simp only [viewC, strip] at hv <;> try (repeat' (first | (simp at hv; done) | split at hv))
    rename_i id'
    simp only [Option.some.injEq, LC.exit.injEq] at hv
    subst hv
    exact wp_exit (hQ _ _ hs)
  | .region d ls kill, code, S, S1, x, a, w, Q, hv, hok, hs, he, hQ => by
    simp only [exec] at he
    cases hr : regionL Γ d ls kill S with
    | none => rw [hr] at he; simp at he
    | some S2 =>
      rw [hr] at he
      simp only [Option.map_some, Option.some.injEq, Prod.mk.injEq] at he
      obtain ⟨rfl, rfl⟩ := he
      unfold regionL at hr
      split at hr
      · rename_i S3 h3
        injection hr with hr
        subst hr
        cases code <;> simp only [viewC, strip] at hv <;> try (repeat' (first | (simp at hv; done) | split at hv))
        rename_i id ops draw
        simp only [Option.map_eq_some_iff, LC.region.injEq] at hv
        obtain ⟨ls', hls, rfl, rfl, _⟩ := hv
        simp only [okC, Bool.and_eq_true, List.all_eq_true, Bool.or_eq_true, Bool.not_eq_true'] at hok
        cases draw with
        | false => exact wp_region_list (runL_ok hΓ hF hls hok.1 hs h3 (fun a' w' h => hQ _ _ (h.drop kill)))
        | true => exact hD c N id ops ls' S S3 a w Q (by rcases hok.2 with h | h; cases h; exact h) hF hls hok.1 hs h3 (fun a' w' h => hQ _ _ (h.drop kill))
      · cases hr
  | .seq l1 l2, code, S, S1, x, a, w, Q, hv, hok, hs, he, hQ => by
    cases code <;> simp only [viewC, strip] at hv <;> try (repeat' (first | (simp at hv; done) | split at hv))
    rename_i c1 c2 _ x1 hx1 _ x2 hx2
    simp only [Option.some.injEq, LC.seq.injEq] at hv
    obtain ⟨rfl, rfl⟩ := hv
    simp only [okC, Bool.and_eq_true] at hok
    simp only [exec] at he
    cases h1 : exec Γ n l1 S with
    | none => rw [h1] at he; cases he
    | some p =>
      obtain ⟨x', S2⟩ := p
      rw [h1] at he
      refine wp_seq (exec_ok hΓ hD hF l1 c1 hx1 hok.1 hs h1 (fun a' w' h => ?_))
      cases x' with
      | normal => exact exec_ok hΓ hD hF l2 c2 hx2 hok.2 h he hQ
      | exit id =>
        simp only [Option.some.injEq, Prod.mk.injEq] at he
        obtain ⟨rfl, rfl⟩ := he
        exact hQ _ _ h
      | ret =>
        simp only [Option.some.injEq, Prod.mk.injEq] at he
        obtain ⟨rfl, rfl⟩ := he
        exact hQ _ _ h
  | .cond q kill l1 l2, code, S, S1, x, a, w, Q, hv, hok, hs, he, hQ => by
    cases code <;> simp only [viewC, strip] at hv <;> try (repeat' (first | (simp at hv; done) | split at hv))
    rename_i cc c1 c2 _ q' hq _ x1 hx1 _ x2 hx2
    simp only [Option.some.injEq, LC.cond.injEq] at hv
    obtain ⟨rfl, _, rfl, rfl⟩ := hv
    simp only [okC, Bool.and_eq_true] at hok
    simp only [exec] at he
    obtain ⟨O, hm, hsr, _, _⟩ := id hs
    have hcv := viewOpd_ok hsr hq
    split at he
    · rename_i hb
      rw [hb] at hcv
      exact wp_cond_true hcv.bool (exec_ok hΓ hD hF l1 c1 hx1 hok.1 (hs.drop kill) he hQ)
    · rename_i hb
      rw [hb] at hcv
      exact wp_cond_false hcv.bool (exec_ok hΓ hD hF l2 c2 hx2 hok.2 (hs.drop kill) he hQ)
    · cases he
  | .block id l, code, S, S1, x, a, w, Q, hv, hok, hs, he, hQ => by
    cases code <;> simp only [viewC, strip] at hv <;> try (repeat' (first | (simp at hv; done) | split at hv))
    rename_i id' c1
    simp only [Option.map_eq_some_iff, LC.block.injEq] at hv
    obtain ⟨x1, hx1, rfl, rfl⟩ := hv
    simp only [okC] at hok
    simp only [exec] at he
    cases h1 : exec Γ n l S with
    | none => rw [h1] at he; cases he
    | some p =>
      obtain ⟨x', S2⟩ := p
      rw [h1] at he
      refine wp_block (exec_ok hΓ hD hF l c1 hx1 hok hs h1 (fun a' w' h => ?_))
      cases x' with
      | normal =>
        simp only [Option.some.injEq, Prod.mk.injEq] at he
        obtain ⟨rfl, rfl⟩ := he
        exact hQ _ _ h
      | exit j =>
        simp only at he
        split at he
        · rename_i hj
          simp only [Option.some.injEq, Prod.mk.injEq] at he
          obtain ⟨rfl, rfl⟩ := he
          show Exit.inBlock id' Q (.exit j) a' w'
          simp only [Exit.inBlock, hj, if_true]
          exact hQ _ _ h
        · rename_i hj
          simp only [Option.some.injEq, Prod.mk.injEq] at he
          obtain ⟨rfl, rfl⟩ := he
          show Exit.inBlock id' Q (.exit j) a' w'
          simp only [Exit.inBlock, hj, if_false]
          exact hQ _ _ h
      | ret =>
        simp only [Option.some.injEq, Prod.mk.injEq] at he
        obtain ⟨rfl, rfl⟩ := he
        exact hQ _ _ h
  | .loop l, code, S, S1, x, a, w, Q, hv, hok, hs, he, hQ => by
    cases code <;> simp only [viewC, strip] at hv <;> try (repeat' (first | (simp at hv; done) | split at hv))
    rename_i c1
    simp only [Option.map_eq_some_iff, LC.loop.injEq] at hv
    obtain ⟨x1, hx1, rfl⟩ := hv
    simp only [okC] at hok
    simp only [exec] at he
    have key : ∀ (m : Nat) {S : LS} {a : Act} {w : World}, St c N S a w → iter m (exec Γ n l) S = some (x, S1) → Code.rounds P c1 Q m a w := by
      intro m
      induction m with
      | zero => intro S a w _ h; cases h
      | succ m ih =>
        intro S a w hs h
        rw [rounds_succ]
        simp only [iter] at h
        cases h1 : exec Γ n l S with
        | none => rw [h1] at h; cases h
        | some p =>
          obtain ⟨x', S2⟩ := p
          rw [h1] at h
          refine exec_ok hΓ hD hF l c1 hx1 hok hs h1 (fun a' w' h' => ?_)
          cases x' with
          | normal => exact ih h' h
          | exit id =>
            simp only [Option.some.injEq, Prod.mk.injEq] at h
            obtain ⟨rfl, rfl⟩ := h
            exact hQ _ _ h'
          | ret =>
            simp only [Option.some.injEq, Prod.mk.injEq] at h
            obtain ⟨rfl, rfl⟩ := h
            exact hQ _ _ h'
    exact wp_loop_rounds n (key n hs he)
end
end Go.Lg
