/- Part 22 of a logical reading of translated Go: what a frame holds is said by lists, and each operation is proved against the model. No conditions. -/
import Derived.Test.YtadlmpjlkfbnfacLg21
namespace Go.Lg
open Go.RowKit
set_option linter.unusedVariables false

theorem giveBack_sub {ob ob1 : OB} {d e : DV} (h : giveBack ob d = some (e, ob1)) : (∀ k es, lookO ob1 k = some es → lookO ob k = some es) ∧ ∀ l, e ≠ .tup l := by
  have dr : ∀ (k0 k : Nat) (es : List DV), lookO (dropO ob k0) k = some es → lookO ob k = some es := fun k0 k es h => by
    rw [lookO_drop] at h
    split at h
    · cases h
    · exact h
  unfold giveBack at h
  split at h
  · split at h
    · split at h
      · injection h with h; simp only [Prod.mk.injEq] at h; obtain ⟨rfl, rfl⟩ := h; exact ⟨dr _, fun l hl => (by cases hl)⟩
      · cases h
    · cases h
  · split at h
    · split at h
      · injection h with h; simp only [Prod.mk.injEq] at h; obtain ⟨rfl, rfl⟩ := h; exact ⟨dr _, fun l hl => (by cases hl)⟩
      · cases h
    · cases h
  all_goals first | (injection h with h; simp only [Prod.mk.injEq] at h; obtain ⟨rfl, rfl⟩ := h; exact ⟨fun _ _ h => h, fun l hl => (by cases hl)⟩) | cases h
theorem giveBackL_sub : ∀ {ds es : List DV} {ob ob1 : OB}, giveBackL ob ds = some (es, ob1) → (∀ k l, lookO ob1 k = some l → lookO ob k = some l) ∧ (∀ e ∈ es, ∀ l, e ≠ .tup l) ∧ es.length = ds.length
  | [], es, ob, ob1, h => by
    simp only [giveBackL, Option.some.injEq, Prod.mk.injEq] at h
    obtain ⟨rfl, rfl⟩ := h
    exact ⟨fun _ _ h => h, fun e he => (by cases he), rfl⟩
  | d :: ds, es, ob, ob1, h => by
    simp only [giveBackL] at h
    split at h
    · rename_i e ob2 he
      split at h
      · rename_i es' ob3 hes
        injection h with h
        simp only [Prod.mk.injEq] at h
        obtain ⟨rfl, rfl⟩ := h
        obtain ⟨h1, h2⟩ := giveBack_sub he
        obtain ⟨h3, h4, h5⟩ := giveBackL_sub hes
        refine ⟨fun k l hk => h1 k l (h3 k l hk), fun x hx => ?_, by simp [h5]⟩
        rcases List.mem_cons.1 hx with rfl | hx
        · exact h2
        · exact h4 x hx
      · cases h
    · cases h

section
variable {P : Program} {c : Cx} {w w' : World} {O O1 : OM} {ob obc : OB} {ds as : List DV} {F : Nat → Prop} {fr : Nat → Bool} {old : Bool}

theorem jr_put (hm : MR c O ob w) (hm' : MR ⟨w, ctOk old c O ds, ctRefs O ds⟩ O1 obc w') {obk oc : OB} {Oc : OM} (h : JR c w w' O O1 F obk Oc oc) {k1 kn : Nat} {es es0 : List DV} {p : PO} (hk1 : lookO obk k1 = some es0) (h7 : k1 % 8 ≠ 7) (hO1 : O1 k1 = some p)
    (hkn : kn % 8 ≠ 7) (hF : F kn) (hsz : p.sz = szId kn) (hor : OR w' c.B (ok1 c O O1) p es) : JR c w w' O O1 F (dropO obk k1) (upd Oc kn (some p)) (putO oc kn es) := by
  have key : ∀ {k : Nat} {p' : PO} {g : Nat}, Oc k = some p' → p'.hv.ownBlock = some g → p.hv.ownBlock = some g → False := by
    intro k p' g hk hg' hg
    rcases h.src k p' hk with h1 | ⟨_, k2, h1, h2, h3⟩
    · have := hm.lt h1 hg'
      have := ct_new hm' hO1 h7 hg
      omega
    · have e := hm'.inj k2 k1 p' p g h1 hO1 hg' hg
      subst e
      rw [hk1] at h2
      cases h2
  refine ⟨fun k => ?_, fun k q l hk he => ?_, fun k q hk => ?_, fun k k' q q' g hk hk' hg hg' => ?_, fun k q hk => ?_, fun k q hN hk => ?_⟩
  · rw [lookO_put]
    by_cases e : k = kn
    · simp [e, upd]
    · simp only [upd, e, if_false]; exact h.dom k
  · rw [lookO_put] at he
    by_cases e : k = kn
    · subst e
      rw [upd_same] at hk
      injection hk with hk
      simp only [if_true] at he
      injection he with he
      subst hk; subst he
      exact hor
    · rw [upd_other Oc _ e] at hk
      rw [if_neg e] at he
      exact h.obj k q l hk he
  · by_cases e : k = kn
    · subst e
      rw [upd_same] at hk
      injection hk with hk
      subst hk
      exact .inr ⟨hkn, k1, hO1, by rw [lookO_drop, if_pos rfl], h7⟩
    · rw [upd_other Oc _ e] at hk
      rcases h.src k q hk with h1 | ⟨h0, k2, h1, h2, h3⟩
      · exact .inl h1
      · refine .inr ⟨h0, k2, h1, ?_, h3⟩
        rw [lookO_drop]
        split
        · rfl
        · exact h2
  · by_cases e1 : k = kn <;> by_cases e2 : k' = kn
    · rw [e1, e2]
    · subst e1
      rw [upd_same] at hk
      injection hk with hk
      subst hk
      rw [upd_other Oc _ e2] at hk'
      exact (key hk' hg' hg).elim
    · subst e2
      rw [upd_same] at hk'
      injection hk' with hk'
      subst hk'
      rw [upd_other Oc _ e1] at hk
      exact (key hk hg hg').elim
    · rw [upd_other Oc _ e1] at hk
      rw [upd_other Oc _ e2] at hk'
      exact h.inj k k' q q' g hk hk' hg hg'
  · by_cases e : k = kn
    · subst e
      rw [upd_same] at hk
      injection hk with hk
      subst hk
      exact hsz
    · rw [upd_other Oc _ e] at hk
      exact h.sz k q hk
  · have e : k ≠ kn := fun e => hN (by rw [e]; exact hF)
    rw [upd_other Oc _ e] at hk
    exact h.new k q hN hk

theorem take_ok (hm : MR c O ob w) (hm' : MR ⟨w, ctOk old c O ds, ctRefs O ds⟩ O1 obc w') {obk obk' oc oc' : OB} {Oc : OM} (h : JR c w w' O O1 F obk Oc oc) (hsub : ∀ k es, lookO obk k = some es → lookO obc k = some es)
    (hfr : ∀ k, fr k = true → k % 8 ≠ 7 ∧ F k) {d0 d1 d : DV} {u : Value} {id : Nat} (hv : VR w' w.heap.size (okb (ctOk old c O ds) w.heap.size O1) O1 d0 u) (hg : giveBack obk d0 = some (d1, obk')) (ht : takeIn old fr oc id d1 = some (d, oc'))
    (any : Bool) (ha : any = true → lendsOwn ds = false) (hn : any = true ∨ nw1 d1 = true) :
    ∃ Oc', JR c w w' O O1 F obk' Oc' oc' ∧ VR w' c.B (ok1 c O O1) Oc' d u ∧ (∀ l, d ≠ .tup l) ∧ ∀ k, fr k = false ∨ d.mentions k = false → Oc' k = Oc k := by
  have hback := ct_back hm hm' any ha
  have plain : ∀ {e : DV}, VR w' c.B (ok1 c O O1) Oc e u → d = e → oc' = oc → obk' = obk → (∀ l, e ≠ .tup l) → ∃ Oc', JR c w w' O O1 F obk' Oc' oc' ∧ VR w' c.B (ok1 c O O1) Oc' d u ∧ (∀ l, d ≠ .tup l) ∧ ∀ k, fr k = false ∨ d.mentions k = false → Oc' k = Oc k := by
    rintro e he rfl rfl rfl hl
    exact ⟨Oc, h, he, hl, fun _ _ => rfl⟩
  cases d0 with
  | own k n lo hi =>
    simp only [giveBack] at hg
    split at hg
    · rename_i es hlk
      split at hg
      · rename_i hcond
        injection hg with hg
        simp only [Prod.mk.injEq] at hg
        obtain ⟨rfl, rfl⟩ := hg
        obtain ⟨h7, hlen, rfl, rfl⟩ := hcond
        obtain ⟨p, hO, hp, _, _, hvw, hor⟩ := hv.own_cur hm' (hsub _ _ hlk) hlen
        simp only [takeIn] at ht
        split at ht
        · rename_i hc2
          simp only [Bool.and_eq_true, beq_iff_eq] at hc2
          injection ht with ht
          simp only [Prod.mk.injEq] at ht
          obtain ⟨rfl, rfl⟩ := ht
          obtain ⟨f7, fF⟩ := hfr _ hc2.1
          refine ⟨upd Oc _ (some p), jr_put hm hm' h hlk h7 hO f7 fF (by rw [hc2.2]; exact hm'.sz k p hO) (hor.adopt_ old hm.size any hn (ct_low hm') hback), ?_, fun l hl => (by cases hl), fun k' hk' => ?_⟩
          · rw [hlen]
            exact .own _ _ _ _ p _ (upd_same _ _ _) hp (Nat.zero_le _) (Nat.le_refl _) hvw
          · refine upd_other _ _ (fun e => ?_)
            subst e
            rcases hk' with h1 | h1
            · rw [hc2.1] at h1; cases h1
            · simp [DV.mentions] at h1
        · cases ht
      · cases hg
    · cases hg
  | oad k n a o =>
    unfold giveBack at hg
    split at hg
    · cases (by assumption : DV.oad k n a o = _)
    · rename_i heq
      cases heq
      split at hg
      · rename_i c1 hlk
        split at hg
        · rename_i hcond
          injection hg with hg
          simp only [Prod.mk.injEq] at hg
          obtain ⟨rfl, rfl⟩ := hg
          obtain ⟨h7, rfl⟩ := hcond
          obtain ⟨p, g, hO, hp, hgb, hve, hor⟩ := hv.oad_cur hm' (hsub _ _ hlk) rfl
          simp only [takeIn] at ht
          split at ht
          · rename_i hc2
            simp only [Bool.and_eq_true, beq_iff_eq] at hc2
            injection ht with ht
            simp only [Prod.mk.injEq] at ht
            obtain ⟨rfl, rfl⟩ := ht
            obtain ⟨f7, fF⟩ := hfr _ hc2.1
            have hw1 := hor.wid c1 (List.mem_singleton.2 rfl)
            refine ⟨upd Oc _ (some p), jr_put hm hm' h hlk h7 hO f7 fF (by rw [hc2.2, hw1]) (by simpa [adoptL] using hor.adopt_ old (B' := c.B) (ok' := ok1 c O O1) hm.size any (hn.imp _root_.id fun h => by simpa [nw1, allNewL] using h) (ct_low hm') hback), ?_, fun l hl => (by cases hl), fun k' hk' => ?_⟩
            · rw [hve]
              exact .oad _ 1 0 0 p g (upd_same _ _ _) hp hgb
            · refine upd_other _ _ (fun e => ?_)
              subst e
              rcases hk' with h1 | h1
              · rw [hc2.1] at h1; cases h1
              · simp [DV.mentions] at h1
          · cases ht
        · cases hg
      · cases hg
    all_goals (first | (cases (by assumption : DV.oad k n a o = _)) | cases hg)
  | nil =>
    simp only [giveBack, Option.some.injEq, Prod.mk.injEq] at hg
    obtain ⟨rfl, rfl⟩ := hg
    simp only [takeIn, Option.some.injEq, Prod.mk.injEq] at ht
    have e := (hv.slice_ (c := ⟨w, ctOk old c O ds, ctRefs O ds⟩)).2.2 rfl
    refine plain (e := .sl 1 []) ?_ (by rw [← ht.1]; rfl) ht.2.symm rfl (fun l hl => (by cases hl))
    rw [e]
    exact .cr _ _ (.sl0 _ _ _ (Nat.zero_le _))
  | i n =>
    simp only [giveBack, Option.some.injEq, Prod.mk.injEq] at hg
    obtain ⟨rfl, rfl⟩ := hg
    simp only [takeIn, Option.some.injEq, Prod.mk.injEq] at ht
    refine plain (e := .i n) ?_ ht.1.symm ht.2.symm rfl (fun l hl => (by cases hl))
    rw [hv.int (c := ⟨w, ctOk old c O ds, ctRefs O ds⟩)]; exact .cr _ _ (.i n)
  | y n =>
    simp only [giveBack, Option.some.injEq, Prod.mk.injEq] at hg
    obtain ⟨rfl, rfl⟩ := hg
    simp only [takeIn, Option.some.injEq, Prod.mk.injEq] at ht
    refine plain (e := .y n) ?_ ht.1.symm ht.2.symm rfl (fun l hl => (by cases hl))
    have h1 := hv.byte_lt (c := ⟨w, ctOk old c O ds, ctRefs O ds⟩)
    rw [hv.byte (c := ⟨w, ctOk old c O ds, ctRefs O ds⟩)]; exact .cr _ _ (.y n h1)
  | b n =>
    simp only [giveBack, Option.some.injEq, Prod.mk.injEq] at hg
    obtain ⟨rfl, rfl⟩ := hg
    simp only [takeIn, Option.some.injEq, Prod.mk.injEq] at ht
    refine plain (e := .b n) ?_ ht.1.symm ht.2.symm rfl (fun l hl => (by cases hl))
    rw [hv.bool (c := ⟨w, ctOk old c O ds, ctRefs O ds⟩)]; exact .cr _ _ (.b n)
  | s n =>
    simp only [giveBack, Option.some.injEq, Prod.mk.injEq] at hg
    obtain ⟨rfl, rfl⟩ := hg
    simp only [takeIn, Option.some.injEq, Prod.mk.injEq] at ht
    refine plain (e := .s n) ?_ ht.1.symm ht.2.symm rfl (fun l hl => (by cases hl))
    rw [hv.str (c := ⟨w, ctOk old c O ds, ctRefs O ds⟩)]; exact .cr _ _ (.s n)
  | st cs =>
    simp only [giveBack, Option.some.injEq, Prod.mk.injEq] at hg
    obtain ⟨rfl, rfl⟩ := hg
    simp only [takeIn, Option.some.injEq, Prod.mk.injEq] at ht
    refine plain (e := .st (adoptL old cs)) ?_ ht.1.symm ht.2.symm rfl (fun l hl => (by cases hl))
    obtain ⟨us, rfl, hc⟩ := hv.st' (c := ⟨w, ctOk old c O ds, ctRefs O ds⟩)
    refine .st _ _ (hc.adopt_ old hm.size any (hn.imp _root_.id fun h => ?_) (ct_low hm') hback)
    simp only [nw1, DV.allNew, allNewL_all, List.all_eq_true] at h
    exact h
  | sl p es =>
    simp only [giveBack, Option.some.injEq, Prod.mk.injEq] at hg
    obtain ⟨rfl, rfl⟩ := hg
    simp only [takeIn, Option.some.injEq, Prod.mk.injEq] at ht
    refine plain (e := (DV.sl p es).adopt old) ?_ ht.1.symm ht.2.symm rfl (fun l hl => (by cases hl))
    exact .cr _ _ ((hv.sl' (c := ⟨w, ctOk old c O ds, ctRefs O ds⟩)).adopt_ old hm.size any (hn.imp _root_.id fun h => h) (ct_low hm') hback)
  | np =>
    simp only [giveBack, Option.some.injEq, Prod.mk.injEq] at hg
    obtain ⟨rfl, rfl⟩ := hg
    simp only [takeIn, Option.some.injEq, Prod.mk.injEq] at ht
    refine plain (e := .np) ?_ ht.1.symm ht.2.symm rfl (fun l hl => (by cases hl))
    cases hv with
    | cr _ _ h => cases h
    | np => exact .np
  | _ => simp [giveBack] at hg

theorem takeL_ok (hm : MR c O ob w) (hm' : MR ⟨w, ctOk old c O ds, ctRefs O ds⟩ O1 obc w') (any : Bool) (ha : any = true → lendsOwn ds = false) : ∀ {raws rs es : List DV} {vals : List Value} {obk ob2 oc oc' : OB} {Oc : OM} {fr : Nat → Bool} {id : Nat}, JR c w w' O O1 F obk Oc oc → (∀ k es, lookO obk k = some es → lookO obc k = some es) →
    (∀ k, fr k = true → k % 8 ≠ 7 ∧ F k) → raws.length = vals.length → (∀ (j : Nat) (d : DV) (u : Value), raws[j]? = some d → vals[j]? = some u → VR w' w.heap.size (okb (ctOk old c O ds) w.heap.size O1) O1 d u) →
    giveBackL obk raws = some (rs, ob2) → takeInL old fr oc id rs = some (es, oc') → (any = true ∨ rs.all nw1 = true) →
    ∃ Oc', JR c w w' O O1 F ob2 Oc' oc' ∧ es.length = vals.length ∧ (∀ (j : Nat) (d : DV) (u : Value), es[j]? = some d → vals[j]? = some u → VR w' c.B (ok1 c O O1) Oc' d u) ∧ (∀ d ∈ es, ∀ l, d ≠ .tup l) ∧ ∀ k, fr k = false → Oc' k = Oc k
  | [], rs, es, vals, obk, ob2, oc, oc', Oc, fr, id, h, hsub, hfr, hl, hv, hg, ht, hn => by
    simp only [giveBackL, Option.some.injEq, Prod.mk.injEq] at hg
    obtain ⟨rfl, rfl⟩ := hg
    simp only [takeInL, Option.some.injEq, Prod.mk.injEq] at ht
    obtain ⟨rfl, rfl⟩ := ht
    exact ⟨Oc, h, hl, fun j d u hd => (by simp at hd), fun d hd => (by cases hd), fun _ _ => rfl⟩
  | d0 :: raws, rs, es, vals, obk, ob2, oc, oc', Oc, fr, id, h, hsub, hfr, hl, hv, hg, ht, hn => by
    cases vals with
    | nil => simp at hl
    | cons u vals =>
      simp only [giveBackL] at hg
      split at hg
      · rename_i d1 ob1 hg1
        split at hg
        · rename_i rs' ob3 hgL
          injection hg with hg
          simp only [Prod.mk.injEq] at hg
          obtain ⟨rfl, rfl⟩ := hg
          simp only [takeInL] at ht
          split at ht
          · rename_i e oc1 ht1
            split at ht
            · rename_i es' oc2 htL
              injection ht with ht
              simp only [Prod.mk.injEq] at ht
              obtain ⟨rfl, rfl⟩ := ht
              have hn' : (any = true ∨ nw1 d1 = true) ∧ (any = true ∨ rs'.all nw1 = true) := by
                rcases hn with h | h
                · exact ⟨.inl h, .inl h⟩
                · simp only [List.all_cons, Bool.and_eq_true] at h; exact ⟨.inr h.1, .inr h.2⟩
              obtain ⟨Oc1, j1, v1, nt1, s1⟩ := take_ok hm hm' h hsub hfr (hv 0 d0 u rfl rfl) hg1 ht1 any ha hn'.1
              obtain ⟨Oc2, j2, l2, v2, nt2, s2⟩ := takeL_ok hm hm' any ha j1 (fun k l hk => hsub k l ((giveBack_sub hg1).1 k l hk)) (fun k hk => hfr k (by simp at hk; exact hk.1)) (by simpa using hl) (fun j d u hd hu => hv (j + 1) d u (by simpa using hd) (by simpa using hu)) hgL htL hn'.2
              refine ⟨Oc2, j2, by simp [l2], fun j d x hd hx => ?_, fun d hd => ?_, fun k hk => ?_⟩
              · cases j with
                | zero =>
                  simp only [List.getElem?_cons_zero, Option.some.injEq] at hd hx
                  subst hd; subst hx
                  exact v1.same (fun k hk => s2 k (by simp [hk]))
                | succ j =>
                  simp only [List.getElem?_cons_succ] at hd hx
                  exact v2 j d x hd hx
              · rcases List.mem_cons.1 hd with rfl | hd
                · exact nt1
                · exact nt2 d hd
              · rw [s2 k (by simp [hk]), s1 k (.inl hk)]
            · cases ht
          · cases ht
        · cases hg
      · cases hg
end

theorem callOk_of {P : Program} {Γ : Fns} (hS : FnSound P Γ) : CallOk P Γ := by
  intro c fr w O ob ob' f id vs ds d hm hF hl hv he
  unfold callD at he
  split at he
  · cases he
  · rename_i as has
    split at he
    · cases he
    · rename_i r cs hΓ
      split at he
      · rename_i hcond
        simp only [Bool.and_eq_true, Bool.not_eq_true', Bool.and_eq_false_imp, Bool.not_eq_false'] at hcond
        obtain ⟨hnew, hap⟩ := hcond
        split at he
        · cases he
        · rename_i obA hpr
          obtain ⟨hb, hc⟩ := hS f as (r, cs) hΓ
          refine ⟨hb, (hc w (ctOk (oldArgs ob ds) c O ds) (ctRefs O ds) (ctO O ds) vs (entry_of (oldArgs ob ds) (fun h => h) hm hl hv has hap)).mono fun e w' ⟨v, hev, O1, obc, ob2, raws, vals, rs, hm', hlen, hvr, hvv, hgb, hou, hr⟩ => ?_⟩
          simp only at hou hr
          have ha : (!lendsOwn ds) = true → lendsOwn ds = false := fun h => by simpa using h
          have hnw : (!lendsOwn ds) = true ∨ (newRes r = true ∧ newOuts cs = true) := by
            cases hlo : lendsOwn ds with
            | false => exact .inl rfl
            | true => exact .inr (hnew hlo)
          obtain ⟨gsub, gnt, glen⟩ := giveBackL_sub hgb
          have hj := jr_start (F := fun k => fr k = true) hm hm' has hap hou gsub hpr (!lendsOwn ds) ha (hnw.imp _root_.id fun h => h.2)
          have hfr : ∀ k, fr k = true → k % 8 ≠ 7 ∧ fr k = true := fun k hk => ⟨hF.a k hk, hk⟩
          by_cases h1 : ∃ x, rs = [x]
          · obtain ⟨x, rfl⟩ := h1
            have hr' : r = x := hr
            subst hr'
            have hnt := gnt r (List.mem_singleton.2 rfl)
            have he' : takeIn (oldArgs ob ds) fr obA id r = some (d, ob') := by
              cases r with
              | tup l => exact absurd rfl (hnt l)
              | _ => exact he
            have h11 : raws.length = 1 := by rw [← glen]; rfl
            match raws, h11 with
            | [d0], _ =>
              match vals, hlen with
              | [u], _ =>
                simp only [giveBackL] at hgb
                split at hgb
                · rename_i e1 ob1 hg1
                  injection hgb with hgb
                  simp only [Prod.mk.injEq, List.cons.injEq, and_true] at hgb
                  obtain ⟨rfl, rfl⟩ := hgb
                  have hn1 : (!lendsOwn ds) = true ∨ nw1 e1 = true := hnw.imp _root_.id fun h => by
                    have := h.1
                    cases e1 with
                    | tup l => exact absurd rfl (hnt l)
                    | _ => exact this
                  obtain ⟨Oc, j1, v1, nt1, s1⟩ := take_ok hm hm' hj (fun _ _ h => h) hfr (hvr 0 d0 u rfl rfl) hg1 he' (!lendsOwn ds) ha hn1
                  obtain ⟨q1, q2, q3⟩ := jr_end hm hm' j1 hF.b
                  exact ⟨v, Oc, hev, q1, by rw [hvv]; exact v1.okm (fun b hb _ => q3 b hb), q2⟩
                · cases hgb
          · have hr' : r = .tup rs := by
              rw [hr]
              unfold single
              split
              · rename_i x; exact absurd ⟨x, rfl⟩ h1
              · rfl
            subst hr'
            simp only at he
            split at he
            · rename_i es ob3 ht
              injection he with he
              simp only [Prod.mk.injEq] at he
              obtain ⟨rfl, rfl⟩ := he
              have hn1 : (!lendsOwn ds) = true ∨ rs.all nw1 = true := hnw.imp _root_.id fun h => by
                have := h.1
                simp only [newRes, newRes_go] at this
                exact this
              obtain ⟨Oc, j1, l1, v1, nt1, s1⟩ := takeL_ok hm hm' (!lendsOwn ds) ha hj (fun _ _ h => h) hfr hlen hvr hgb ht hn1
              obtain ⟨q1, q2, q3⟩ := jr_end hm hm' j1 hF.b
              have hvt : v = .tuple vals.toArray := by
                rw [hvv]
                unfold singleV
                split
                · rename_i x
                  exfalso
                  match rs, glen.trans hlen with
                  | [y], _ => exact h1 ⟨y, rfl⟩
                · rfl
              refine ⟨v, Oc, hev, q1, ?_, q2⟩
              rw [hvt]
              refine .tup es _ (by simp [l1]) nt1 (fun j d u hd hu => (v1 j d u hd (by simpa using hu)).okm (fun b hb _ => q3 b hb))
            · cases he
      · cases he
end Go.Lg
