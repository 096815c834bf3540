/- Part 28 of a logical reading of translated Go: what a frame holds is said by lists, and each operation is proved against the model. No conditions. -/
import Derived.Test.YtadlmpjlkfbnfacLg27
namespace Go.Lg
open Go.RowKit
set_option linter.unusedVariables false

theorem apartL_spec {x y : LOp} (h : apartL x y = true) : (∀ d, x.dst = some d → d ∉ looksL y) ∧ (∀ d, x.dst = some d → y.dst ≠ some d) ∧ (∀ d, y.dst = some d → d ∉ looksL x) := by
  refine ⟨fun d hd => ?_, fun d hd => ?_, fun d hd => ?_⟩ <;> simp [apartL, hd] at h
  · exact h.1.1
  · exact h.1.2
  · exact h.2
theorem look_putD (e : Env) (x : Option Nat) (d : DV) (t : Nat) (h : x ≠ some t) : Lg.look (putD e x d) t = Lg.look e t := by
  cases x with
  | none => rfl
  | some y => simp only [putD]; rw [look_put, if_neg (fun e => h (by rw [e]))]
theorem putD_comm {x y : Option Nat} {a b : DV} (h : ∀ d, x = some d → y ≠ some d) (e : Env) : putD (putD e x a) y b = putD (putD e y b) x a := by
  cases x with
  | none => rfl
  | some x =>
    cases y with
    | none => rfl
    | some y => exact put_comm (fun e => h x rfl (by rw [e])) e
theorem ag_step {S S1 : LS} {x : Option Nat} {d : DV} (h : S1.sl = putD S.sl x d) {i : LOp} (hx : ∀ d, x = some d → d ∉ looksL i) : Ag i S1 S ∧ Ag i S S1 := by
  have : Ag i S1 S := fun t ht => by rw [h]; exact look_putD _ _ _ _ (fun e => hx t e ht)
  exact ⟨this, fun t ht => (this t ht).symm⟩
theorem agD_step {S S1 : LS} {x : Option Nat} {d : DV} (h : S1.sl = putD S.sl x d) {i : LOp} (hx : ∀ d, x = some d → i.dst ≠ some d) : AgD i S1 S ∧ AgD i S S1 := by
  have : AgD i S1 S := fun t ht => by rw [h]; exact look_putD _ _ _ _ (fun e => hx t e ht)
  exact ⟨this, fun t ht => (this t ht).symm⟩
theorem ls_eq {S : LS} {e : Env} {ob : OB} (h1 : S.sl = e) (h2 : S.ob = ob) : (⟨e, ob⟩ : LS) = S := by cases S; simp_all

/-- Two neighbours, exchanged. -/
theorem swap_ok {Γ : Fns} {q : Mode} (hqw : q = .free ∨ q = .strong) {i j : LOp} (hap : apartL j i = true) (hw : ¬ (j.k.isW = true ∧ i.k.isW = true)) (hq : j.k.isW = true ∨ i.k.isW = true → q = .strong) {S S1 S2 : LS} (oj : okStep q j S = true) (sj : stepL Γ j S = some S1) (oi : okStep q i S1 = true) (si : stepL Γ i S1 = some S2) :
    ∃ T1, okStep q i S = true ∧ stepL Γ i S = some T1 ∧ okStep q j T1 = true ∧ stepL Γ j T1 = some S2 := by
  obtain ⟨p1, p2, p3⟩ := apartL_spec hap
  have p2' : ∀ d, i.dst = some d → j.dst ≠ some d := fun d hi hj => p2 d hj hi
  obtain ⟨dj, ej, fj⟩ := stepL_any sj
  have ai := ag_step ej p1
  have bi := agD_step ej p2
  have oi' : okStep q i S = true := by rw [← okStep_congr hqw ai.1 bi.1]; exact oi
  have fin : ∀ (di : DV) (T1 : LS), S2.sl = putD S1.sl i.dst di → T1.sl = putD S.sl i.dst di → (∃ e, stepL Γ j T1 = some ⟨putD T1.sl j.dst e, S2.ob⟩ ∧ S1.sl = putD S.sl j.dst e) → okStep q j T1 = true ∧ stepL Γ j T1 = some S2 := by
    rintro di T1 e2 e1 ⟨e, hs, he⟩
    have aj := ag_step e1 p3
    have bj := agD_step e1 p2'
    refine ⟨by rw [okStep_congr hqw aj.1 bj.1]; exact oj, ?_⟩
    rw [hs]
    congr 1
    exact ls_eq (by rw [e2, e1, he]; exact putD_comm p2 S.sl) rfl
  cases hi : i.k.isW with
  | false =>
    obtain ⟨obi, di, ei, fi⟩ := stepL_nonW hi si
    cases hj : j.k.isW with
    | false =>
      obtain ⟨obj, dj', ej', fj'⟩ := stepL_nonW hj sj
      have s1 := fi S ⟨ai.1, obj.symm⟩
      refine ⟨⟨putD S.sl i.dst di, S2.ob⟩, oi', s1, fin di _ ei rfl ⟨dj', ?_, ej'⟩⟩
      have aj := ag_step (S := S) (S1 := ⟨putD S.sl i.dst di, S2.ob⟩) rfl p3
      rw [fj' ⟨putD S.sl i.dst di, S2.ob⟩ ⟨aj.2, by rw [obi, obj]⟩, obi]
    | true =>
      have hq1 := hq (.inl hj)
      subst hq1
      have hqi : quiet i S1 = true := by simpa [okStep, hi] using oi
      obtain ⟨di', ei', gi, mi⟩ := stepL_quiet hi hqi si
      have s1 := gi S ai.1
      refine ⟨⟨putD S.sl i.dst di', S.ob⟩, oi', s1, fin di' _ ei' rfl ⟨dj, ?_, ej⟩⟩
      have aj := ag_step (S := S) (S1 := ⟨putD S.sl i.dst di', S.ob⟩) rfl p3
      rw [fj ⟨putD S.sl i.dst di', S.ob⟩ ⟨aj.2, rfl, fun k => mi S ai.1 bi.1 k⟩, obi]
  | true =>
    have hj : j.k.isW = false := by
      cases hj : j.k.isW with
      | false => rfl
      | true => exact absurd ⟨hj, hi⟩ hw
    have hq1 := hq (.inr hi)
    subst hq1
    have hqj : quiet j S = true := by simpa [okStep, hj] using oj
    obtain ⟨obj, _⟩ := stepL_nonW hj sj
    obtain ⟨dj', ej', gj, mj⟩ := stepL_quiet hj hqj sj
    obtain ⟨di, ei, fi⟩ := stepL_any si
    have s1 := fi S ⟨ai.1, obj.symm, fun k => by rw [ej']; exact (mj S (fun t _ => rfl) (fun t _ => rfl) k).symm⟩
    refine ⟨⟨putD S.sl i.dst di, S2.ob⟩, oi', s1, fin di _ ei rfl ⟨dj', ?_, ej'⟩⟩
    have aj := ag_step (S := S) (S1 := ⟨putD S.sl i.dst di, S2.ob⟩) rfl p3
    rw [gj ⟨putD S.sl i.dst di, S2.ob⟩ aj.2]

/-- What a step that only adds leaves as it was. -/
theorem settle_keep {ob ob1 : OB} {v v' : DV} (h : settle ob v = some (v', ob1)) (hv : ownKs [v] = []) : ob1 = ob := by
  cases v <;> simp_all [settle, ownKs]
theorem settleL_keep : ∀ {vs vs' : List DV} {ob ob1 : OB}, settleL ob vs = some (vs', ob1) → ownKs vs = [] → ob1 = ob
  | [], vs', ob, ob1, h, _ => by simp only [settleL, Option.some.injEq, Prod.mk.injEq] at h; exact h.2.symm
  | v :: vs, vs', ob, ob1, h, hv => by
    simp only [settleL] at h
    split at h
    · rename_i e ob2 he
      split at h
      · rename_i es ob3 hes
        injection h with h
        simp only [Prod.mk.injEq] at h
        obtain ⟨rfl, rfl⟩ := h
        have h1 : ownKs [v] = [] ∧ ownKs vs = [] := by cases v <;> simp_all [ownKs]
        have e1 := settle_keep he h1.1
        have e2 := settleL_keep hes h1.2
        rw [e2, e1]
      · cases h
    · cases h
theorem takeIn_keep {old : Bool} {fr : Nat → Bool} {ob ob1 : OB} {id : Nat} {d e : DV} (h : takeIn old fr ob id d = some (e, ob1)) {k : Nat} (hk : fr k = false) : lookO ob1 k = lookO ob k := by
  have put : ∀ (i : Nat) (es : List DV), fr i = true → lookO (putO ob i es) k = lookO ob k := fun i es hi => by
    rw [lookO_put, if_neg (fun e => by rw [e, hi] at hk; cases hk)]
  cases d <;> simp only [takeIn] at h
  all_goals first
    | (injection h with h; simp only [Prod.mk.injEq] at h; rw [← h.2]; done)
    | (cases h; done)
    | (split at h
       · rename_i hc
         rw [Bool.and_eq_true] at hc
         injection h with h; simp only [Prod.mk.injEq] at h; rw [← h.2]; exact put _ _ hc.1
       · cases h)
theorem takeInL_keep : ∀ {ds es : List DV} {old : Bool} {fr : Nat → Bool} {ob ob1 : OB} {id : Nat}, takeInL old fr ob id ds = some (es, ob1) → ∀ {k : Nat}, fr k = false → lookO ob1 k = lookO ob k
  | [], es, old, fr, ob, ob1, id, h, k, hk => by simp only [takeInL, Option.some.injEq, Prod.mk.injEq] at h; rw [← h.2]
  | d :: ds, es, old, fr, ob, ob1, id, h, k, hk => by
    simp only [takeInL] at h
    split at h
    · rename_i e ob2 he
      split at h
      · rename_i es' ob3 hes
        injection h with h
        simp only [Prod.mk.injEq] at h
        obtain ⟨rfl, rfl⟩ := h
        rw [takeInL_keep hes (by simp [hk]), takeIn_keep he hk]
      · cases h
    · cases h
theorem putRefs_keep : ∀ {old : Bool} {ds cs : List DV} {ob ob1 : OB}, putRefs old ob ds cs = some ob1 → refKs ds = [] → ob1 = ob
  | old, [], [], ob, ob1, h, _ => by simp only [putRefs, Option.some.injEq] at h; exact h.symm
  | old, [], _ :: _, ob, ob1, h, _ => by cases h
  | old, d :: ds, cs, ob, ob1, h, hr => by
    cases d <;> first
      | (simp [refKs] at hr; done)
      | (have h' : putRefs old ob ds cs = some ob1 := by cases cs <;> exact h
         exact putRefs_keep h' (by simpa [refKs] using hr))
theorem goL_keep {Γ : Fns} {o : LOp} {S S1 : LS} (hw : o.k.isW = true) (ha : addsK o.k (o.args.map S.get) = true) (h : goL Γ o S = some S1) {k : Nat} (hk : Env.mentions k S.sl = true) : lookO S1.ob k = lookO S.ob k := by
  unfold goL at h
  split at h
  · rename_i v ob he
    injection h with h
    subst h
    have hfr : frS S k = false := by simp [frS, hk]
    show lookO ob k = lookO S.ob k
    have put : ∀ (i : Nat) (es : List DV) (o1 : OB), frS S i = true → o1 = S.ob → lookO (putO o1 i es) k = lookO S.ob k := fun i es o1 hi ho => by
      rw [ho, lookO_put, if_neg (fun e => by rw [e, hi] at hfr; cases hfr)]
    generalize o.args.map S.get = xs at *
    generalize o.k = kk at *
    cases kk with
    | call f id =>
      rw [eff_call] at he
      unfold callD at he
      split at he
      · cases he
      · split at he
        · cases he
        · rename_i r outs _
          split at he
          · split at he
            · cases he
            · rename_i ob1 hp
              have e1 := putRefs_keep hp (by simpa [addsK] using ha)
              subst e1
              split at he
              · split at he
                · rename_i es ob2 ht
                  injection he with he
                  simp only [Prod.mk.injEq] at he
                  rw [← he.2]
                  exact takeInL_keep ht hfr
                · cases he
              · exact takeIn_keep he hfr
          · cases he
    | newnil id =>
      simp only [eff, effP] at he
      split at he
      · split at he
        · rename_i hf; injection he with he; simp only [Prod.mk.injEq] at he; rw [← he.2]; exact put _ _ _ hf rfl
        · cases he
      · cases he
    | make id sz z =>
      simp only [eff, effP] at he
      split at he
      · split at he
        · rename_i hf; injection he with he; simp only [Prod.mk.injEq] at he; rw [← he.2]; exact put _ _ _ hf.1 rfl
        · cases he
      · cases he
    | alloc id z =>
      simp only [eff, effP] at he
      split at he
      · split at he
        · rename_i hf; injection he with he; simp only [Prod.mk.injEq] at he; rw [← he.2]; exact put _ _ _ hf rfl
        · cases he
      · cases he
    | box id =>
      simp only [eff, effP] at he
      split at he
      · rename_i v0
        split at he
        · rename_i v' ob1 hs
          have e1 := settle_keep hs (by simpa [addsK] using ha)
          split at he
          · rename_i hf; injection he with he; simp only [Prod.mk.injEq] at he; rw [← he.2]; exact put _ _ _ hf.1 e1
          · cases he
        · cases he
      · cases he
    | build z ps =>
      simp only [eff, effP] at he
      split at he
      · rename_i vs ob1 hs
        have e1 := settleL_keep hs (by simpa [addsK] using ha)
        rw [Option.map_eq_some_iff] at he
        obtain ⟨_, _, he⟩ := he
        simp only [Prod.mk.injEq] at he
        rw [← he.2, e1]
      · cases he
    | bslice id len sz z ps =>
      simp only [eff, effP] at he
      split at he
      · rename_i vs ob1 hs
        have e1 := settleL_keep hs (by simpa [addsK] using ha)
        split at he
        · rename_i hf
          rw [Option.map_eq_some_iff] at he
          obtain ⟨_, _, he⟩ := he
          simp only [Prod.mk.injEq] at he
          rw [← he.2]
          exact put _ _ _ hf e1
        · cases he
      · cases he
    | _ => simp [addsK] at ha
  · cases h
theorem stepL_keep {Γ : Fns} {o : LOp} {S S1 : LS} (hw : o.k.isW = true) (ha : adds o S = true) (h : stepL Γ o S = some S1) {k : Nat} (hk : Env.mentions k S.sl = true) : lookO S1.ob k = lookO S.ob k := by
  rw [stepL_go] at h
  unfold adds at ha
  cases hg : o.g with
  | none => rw [hg] at h ha; exact goL_keep hw ha h hk
  | some p =>
    obtain ⟨t, want⟩ := p
    rw [hg] at h ha
    simp only at h ha
    cases hl : Lg.look S.sl t with
    | b x =>
      rw [hl] at h ha
      simp only at h ha
      by_cases hx : x = want
      · rw [if_pos hx] at h ha; exact goL_keep hw ha h hk
      · rw [if_neg hx] at h; injection h with h; subst h; rfl
    | und => rw [hl] at h; injection h with h; subst h; rfl
    | _ => rw [hl] at h; cases h

/-- What a step leaves as it was. -/
theorem settle_keepk {ob ob1 : OB} {v v' : DV} {k : Nat} (h : settle ob v = some (v', ob1)) (hv : k ∉ ownKs [v]) : lookO ob1 k = lookO ob k := by
  cases v with
  | own k0 n lo hi =>
    simp only [settle] at h
    split at h
    · split at h
      · cases h
      · injection h with h
        simp only [Prod.mk.injEq] at h
        rw [← h.2, lookO_drop, if_neg (fun e => hv (by rw [e]; simp [ownKs]))]
    · cases h
  | _ => rw [settle_keep h (by rfl)]
theorem settleL_keepk : ∀ {vs vs' : List DV} {ob ob1 : OB} {k : Nat}, settleL ob vs = some (vs', ob1) → k ∉ ownKs vs → lookO ob1 k = lookO ob k
  | [], vs', ob, ob1, k, h, _ => by simp only [settleL, Option.some.injEq, Prod.mk.injEq] at h; rw [h.2]
  | v :: vs, vs', ob, ob1, k, h, hv => by
    simp only [settleL] at h
    split at h
    · rename_i e ob2 he
      split at h
      · rename_i es ob3 hes
        injection h with h
        simp only [Prod.mk.injEq] at h
        obtain ⟨rfl, rfl⟩ := h
        have h1 : k ∉ ownKs [v] ∧ k ∉ ownKs vs := by cases v <;> simp_all [ownKs]
        rw [settleL_keepk hes h1.2, settle_keepk he h1.1]
      · cases h
    · cases h
theorem putRefs_keepk : ∀ {old : Bool} {ds cs : List DV} {ob ob1 : OB} {k : Nat}, putRefs old ob ds cs = some ob1 → k ∉ refKs ds → lookO ob1 k = lookO ob k
  | old, [], [], ob, ob1, k, h, _ => by simp only [putRefs, Option.some.injEq] at h; rw [h]
  | old, [], _ :: _, ob, ob1, k, h, _ => by cases h
  | old, .oad k0 n a o :: ds, [], ob, ob1, k, h, hr => by cases h
  | old, .oad k0 n a o :: ds, c :: cs, ob, ob1, k, h, hr => by
    simp only [refKs, List.mem_cons, not_or] at hr
    simp only [putRefs] at h
    rw [putRefs_keepk h hr.2, lookO_put, if_neg hr.1]
  | old, .i _ :: ds, cs, ob, ob1, k, h, hr | old, .y _ :: ds, cs, ob, ob1, k, h, hr | old, .b _ :: ds, cs, ob, ob1, k, h, hr | old, .s _ :: ds, cs, ob, ob1, k, h, hr
  | old, .st _ :: ds, cs, ob, ob1, k, h, hr | old, .sl _ _ :: ds, cs, ob, ob1, k, h, hr | old, .own _ _ _ _ :: ds, cs, ob, ob1, k, h, hr | old, .adr _ :: ds, cs, ob, ob1, k, h, hr
  | old, .ref _ :: ds, cs, ob, ob1, k, h, hr | old, .fr _ _ :: ds, cs, ob, ob1, k, h, hr | old, .tup _ :: ds, cs, ob, ob1, k, h, hr | old, .nil :: ds, cs, ob, ob1, k, h, hr
  | old, .np :: ds, cs, ob, ob1, k, h, hr | old, .und :: ds, cs, ob, ob1, k, h, hr | old, .dead :: ds, cs, ob, ob1, k, h, hr => by
    have h' : putRefs old ob ds cs = some ob1 := by cases cs <;> exact h
    exact putRefs_keepk h' hr
theorem clearL_spec {L ks : List Nat} (h : clearL L ks = true) {k : Nat} (hk : k ∈ L) : k ∉ ks := by
  intro hm
  have := List.all_eq_true.1 h k hm
  simp [hk] at this
theorem goL_keepL {Γ : Fns} {L : List Nat} {o : LOp} {S S1 : LS} (hw : o.k.isW = true) (ha : clearL L (hitK o.k (o.args.map S.get)) = true) (h : goL Γ o S = some S1) {k : Nat} (hk : Env.mentions k S.sl = true) (hL : k ∈ L) : lookO S1.ob k = lookO S.ob k := by
  unfold goL at h
  split at h
  · rename_i v ob he
    injection h with h
    subst h
    have hfr : frS S k = false := by simp [frS, hk]
    show lookO ob k = lookO S.ob k
    have hno := clearL_spec ha hL
    have put : ∀ (i : Nat) (es : List DV) (o1 : OB), frS S i = true → lookO o1 k = lookO S.ob k → lookO (putO o1 i es) k = lookO S.ob k := fun i es o1 hi ho => by
      rw [lookO_put, if_neg (fun e => by rw [e, hi] at hfr; cases hfr), ho]
    generalize o.args.map S.get = xs at *
    generalize o.k = kk at *
    cases kk with
    | call f id =>
      rw [eff_call] at he
      unfold callD at he
      split at he
      · cases he
      · split at he
        · cases he
        · rename_i r outs _
          split at he
          · split at he
            · cases he
            · rename_i ob1 hp
              have e1 := putRefs_keepk (k := k) hp hno
              split at he
              · split at he
                · rename_i es ob2 ht
                  injection he with he
                  simp only [Prod.mk.injEq] at he
                  rw [← he.2, takeInL_keep ht hfr, e1]
                · cases he
              · rw [takeIn_keep he hfr, e1]
          · cases he
    | newnil id =>
      simp only [eff, effP] at he
      split at he
      · split at he
        · rename_i hf; injection he with he; simp only [Prod.mk.injEq] at he; rw [← he.2]; exact put _ _ _ hf rfl
        · cases he
      · cases he
    | make id sz z =>
      simp only [eff, effP] at he
      split at he
      · split at he
        · rename_i hf; injection he with he; simp only [Prod.mk.injEq] at he; rw [← he.2]; exact put _ _ _ hf.1 rfl
        · cases he
      · cases he
    | alloc id z =>
      simp only [eff, effP] at he
      split at he
      · split at he
        · rename_i hf; injection he with he; simp only [Prod.mk.injEq] at he; rw [← he.2]; exact put _ _ _ hf rfl
        · cases he
      · cases he
    | box id =>
      simp only [eff, effP] at he
      split at he
      · rename_i v0
        split at he
        · rename_i v' ob1 hs
          have e1 := settle_keepk hs hno
          split at he
          · rename_i hf; injection he with he; simp only [Prod.mk.injEq] at he; rw [← he.2]; exact put _ _ _ hf.1 e1
          · cases he
        · cases he
      · cases he
    | build z ps =>
      simp only [eff, effP] at he
      split at he
      · rename_i vs ob1 hs
        have e1 := settleL_keepk (k := k) hs hno
        rw [Option.map_eq_some_iff] at he
        obtain ⟨_, _, he⟩ := he
        simp only [Prod.mk.injEq] at he
        rw [← he.2, e1]
      · cases he
    | bslice id len sz z ps =>
      simp only [eff, effP] at he
      split at he
      · rename_i vs ob1 hs
        have e1 := settleL_keepk (k := k) hs hno
        split at he
        · rename_i hf
          rw [Option.map_eq_some_iff] at he
          obtain ⟨_, _, he⟩ := he
          simp only [Prod.mk.injEq] at he
          rw [← he.2]
          exact put _ _ _ hf e1
        · cases he
      · cases he
    | app id sz =>
      simp only [eff, effP] at he
      split at he
      · rename_i s x
        split at he
        · split at he
          · split at he
            · split at he
              · rename_i hf; injection he with he; simp only [Prod.mk.injEq] at he; rw [← he.2]; exact put _ _ _ hf.1 rfl
              · cases he
            · rename_i k0 n h0
              have hne : k ≠ k0 := fun e => hno (by rw [e]; simp [hitK, ownKs])
              split at he
              · split at he
                · injection he with he; simp only [Prod.mk.injEq] at he; rw [← he.2, lookO_put, if_neg hne]
                · cases he
              · cases he
            · cases he
          · cases he
        · cases he
      · cases he
    | store sz =>
      simp only [eff, effP] at he
      split at he
      · rename_i k0 n a q v0
        have hne : k ≠ k0 := fun e => hno (by rw [e]; simp [hitK, refKs])
        split at he
        · rename_i v' ob1 hs
          have e1 := settle_keepk (k := k) hs (fun hm => hno (by
            have : ownKs (.oad k0 n a q :: [v0]) = ownKs [v0] := rfl
            simp only [hitK, List.mem_append, this]
            exact .inr hm))
          split at he
          · split at he
            · split at he
              · split at he
                · injection he with he; simp only [Prod.mk.injEq] at he; rw [← he.2, lookO_put, if_neg hne, e1]
                · cases he
              · cases he
            · cases he
          · cases he
        · cases he
      · cases he
    | conv cv id => cases cv <;> first | (simp [K.isW] at hw; done) | (simp only [eff, effP] at he; cases he)
    | _ => simp [K.isW] at hw
  · cases h
theorem stepL_keepL {Γ : Fns} {L : List Nat} {o : LOp} {S S1 : LS} (hw : o.k.isW = true) (ha : clears L o S = true) (h : stepL Γ o S = some S1) {k : Nat} (hk : Env.mentions k S.sl = true) (hL : k ∈ L) : lookO S1.ob k = lookO S.ob k := by
  rw [stepL_go] at h
  unfold clears at ha
  cases hg : o.g with
  | none => rw [hg] at h ha; exact goL_keepL hw ha h hk hL
  | some p =>
    obtain ⟨t, want⟩ := p
    rw [hg] at h ha
    simp only at h ha
    cases hl : Lg.look S.sl t with
    | b x =>
      rw [hl] at h ha
      simp only at h ha
      by_cases hx : x = want
      · rw [if_pos hx] at h ha; exact goL_keepL hw ha h hk hL
      · rw [if_neg hx] at h; injection h with h; subst h; rfl
    | und => rw [hl] at h; injection h with h; subst h; rfl
    | _ => rw [hl] at h; cases h
theorem argsIn_spec {L : List Nat} {xs : List DV} (h : argsIn L xs = true) {x : DV} (hx : x ∈ xs) {k : Nat} (hk : x.mentions k = true) : k ∈ L := by
  have := List.all_eq_true.1 h x hx
  cases x <;> simp_all [inL, DV.mentions]

/-- A step that looks at objects, but makes and changes none. -/
theorem args_ment {o : LOp} {S : LS} {x : DV} (hx : x ∈ o.args.map S.get) {k : Nat} (hk : x.mentions k = true) : (∃ c, Opd.c c ∈ o.args ∧ c = x) ∨ Env.mentions k S.sl = true := by
  obtain ⟨a, ha, rfl⟩ := List.mem_map.1 hx
  cases a with
  | c d => exact .inl ⟨d, ha, rfl⟩
  | t n =>
    right
    cases he : Env.mentions k S.sl with
    | true => rfl
    | false =>
      have := mentions_of he n
      have hk' : (Lg.look S.sl n).mentions k = true := hk
      rw [this] at hk'; cases hk'
/-- No constant speaks of an object. -/
def plainO (o : LOp) : Bool := o.args.all fun | .c d => d.noM | .t _ => true
theorem args_plain {o : LOp} (hp : plainO o = true) {S : LS} {x : DV} (hx : x ∈ o.args.map S.get) {k : Nat} (hk : x.mentions k = true) : Env.mentions k S.sl = true := by
  rcases args_ment hx hk with ⟨c, hc, rfl⟩ | h
  · have := List.all_eq_true.1 hp _ hc
    simp only at this
    rw [noM_ment this] at hk; cases hk
  · exact h
theorem stepL_wquietA {Γ : Fns} {o : LOp} {S S1 : LS} {M : Nat → Prop} (hk : o.k.isW = false) (hM : ∀ x ∈ o.args.map S.get, ∀ k, x.mentions k = true → M k) (hq : wquiet o S = true) (h : stepL Γ o S = some S1) :
    ∃ d, S1.sl = putD S.sl o.dst d ∧ (∀ T, Ag o S T → (∀ k, M k → lookO T.ob k = lookO S.ob k) → stepL Γ o T = some ⟨putD T.sl o.dst d, T.ob⟩) ∧
      (∀ T, Ag o S T → AgD o S T → (∀ k, M k → lookO T.ob k = lookO S.ob k) → wquiet o T = true) ∧ ∀ T, Ag o S T → AgD o S T → ∀ k, Env.mentions k (putD T.sl o.dst d) = Env.mentions k T.sl := by
  unfold wquiet at hq
  have hgo : wquietGo o S = true → goL Γ o S = some S1 → ∃ d, S1.sl = putD S.sl o.dst d ∧ (∀ T, Ag o S T → (∀ k, M k → lookO T.ob k = lookO S.ob k) → goL Γ o T = some ⟨putD T.sl o.dst d, T.ob⟩) ∧
      (∀ T, Ag o S T → AgD o S T → (∀ k, M k → lookO T.ob k = lookO S.ob k) → wquietGo o T = true) ∧ ∀ T, Ag o S T → AgD o S T → ∀ k, Env.mentions k (putD T.sl o.dst d) = Env.mentions k T.sl := by
    intro hqg hg
    unfold wquietGo at hqg
    split at hqg
    · rename_i d o0 he
      rw [Bool.and_eq_true] at hqg
      obtain ⟨hsub, hold⟩ := hqg
      have e0 := effP_ob hk he
      subst e0
      have hS : effP (frS S) o.k (o.args.map S.get) S.ob = some (d, S.ob) := by rw [effP_fr hk (fun _ => false), he]
      unfold goL at hg
      rw [eff_nonW hk, hS] at hg
      simp only [Option.some.injEq] at hg
      have loc : ∀ T, Ag o S T → (∀ k, M k → lookO T.ob k = lookO S.ob k) → effP (fun _ => false) o.k (o.args.map T.get) T.ob = some (d, T.ob) := by
        intro T ha hl
        rw [← ha.get]
        exact effP_loc hk (fun x hx id hid => hl id (hM x hx id hid)) he
      refine ⟨d, by rw [← hg], fun T ha hl => ?_, fun T ha hd hl => ?_, fun T ha hd k => ?_⟩
      · unfold goL
        rw [eff_nonW hk, effP_fr hk (fun _ => false), loc T ha hl]
      · unfold wquietGo
        rw [loc T ha hl]
        simp only
        rw [← subM_congr ha, ← oldOk_congr hd, hsub, hold]; rfl
      · refine quiet_ment hold hd (fun k hkm => ?_) k
        rw [subM_congr ha] at hsub
        exact subM_ment hsub hkm
    · cases hqg
  have hund : oldOk o S .und = true → ∀ T, Ag o S T → AgD o S T → ∀ k, Env.mentions k (putD T.sl o.dst .und) = Env.mentions k T.sl := fun hold T ha hd k => quiet_ment hold hd (fun k h => by simp [DV.mentions] at h) k
  rw [stepL_go] at h
  cases hg : o.g with
  | none =>
    rw [hg] at h hq
    obtain ⟨d, h1, h2, h3, h4⟩ := hgo hq h
    exact ⟨d, h1, fun T hT hl => by rw [stepL_go, hg]; exact h2 T hT hl, fun T hT hD hl => by unfold wquiet; rw [hg]; exact h3 T hT hD hl, h4⟩
  | some p =>
    obtain ⟨t, want⟩ := p
    rw [hg] at h hq
    simp only at h hq
    cases hl : Lg.look S.sl t with
    | b x =>
      rw [hl] at h hq
      simp only at h hq
      by_cases hx : x = want
      · rw [if_pos hx] at h hq
        obtain ⟨d, h1, h2, h3, h4⟩ := hgo hq h
        refine ⟨d, h1, fun T hT hll => ?_, fun T hT hD hll => ?_, h4⟩
        · rw [stepL_go, hg]
          simp only
          rw [← hT.guard hg, hl]
          simp only
          rw [if_pos hx]
          exact h2 T hT hll
        · unfold wquiet
          rw [hg]
          simp only
          rw [← hT.guard hg, hl]
          simp only
          rw [if_pos hx]
          exact h3 T hT hD hll
      · rw [if_neg hx] at h hq
        injection h with h
        subst h
        refine ⟨.und, rfl, fun T hT _ => ?_, fun T hT hD _ => ?_, hund hq⟩
        · rw [stepL_go, hg]
          simp only
          rw [← hT.guard hg, hl]
          simp only
          rw [if_neg hx]
        · unfold wquiet
          rw [hg]
          simp only
          rw [← hT.guard hg, hl]
          simp only
          rw [if_neg hx, ← oldOk_congr hD]; exact hq
    | und =>
      rw [hl] at h hq
      injection h with h
      subst h
      refine ⟨.und, rfl, fun T hT _ => ?_, fun T hT hD _ => ?_, hund hq⟩
      · rw [stepL_go, hg]
        simp only
        rw [← hT.guard hg, hl]
      · unfold wquiet
        rw [hg]
        simp only
        rw [← hT.guard hg, hl]
        simp only
        rw [← oldOk_congr hD]; exact hq
    | _ => rw [hl] at h; cases h

theorem stepL_wquiet {Γ : Fns} {o : LOp} {S S1 : LS} (hp : plainO o = true) (hk : o.k.isW = false) (hq : wquiet o S = true) (h : stepL Γ o S = some S1) :
    ∃ d, S1.sl = putD S.sl o.dst d ∧ (∀ T, Ag o S T → (∀ k, Env.mentions k S.sl = true → lookO T.ob k = lookO S.ob k) → stepL Γ o T = some ⟨putD T.sl o.dst d, T.ob⟩) ∧
      (∀ T, Ag o S T → AgD o S T → (∀ k, Env.mentions k S.sl = true → lookO T.ob k = lookO S.ob k) → wquiet o T = true) ∧ ∀ T, Ag o S T → AgD o S T → ∀ k, Env.mentions k (putD T.sl o.dst d) = Env.mentions k T.sl :=
  stepL_wquietA hk (fun x hx k hk => args_plain hp hx hk) hq h

/-- Two neighbours, exchanged, where each object is only looked at or made. -/
theorem swap_weak {Γ : Fns} {i j : LOp} (hpi : plainO i = true) (hpj : plainO j = true) (hap : apartL j i = true) (hw : ¬ (j.k.isW = true ∧ i.k.isW = true)) {S S1 S2 : LS} (oj : okStep .weak j S = true) (sj : stepL Γ j S = some S1) (oi : okStep .weak i S1 = true) (si : stepL Γ i S1 = some S2) :
    ∃ T1, okStep .weak i S = true ∧ stepL Γ i S = some T1 ∧ okStep .weak j T1 = true ∧ stepL Γ j T1 = some S2 := by
  obtain ⟨p1, p2, p3⟩ := apartL_spec hap
  have p2' : ∀ d, i.dst = some d → j.dst ≠ some d := fun d hi hj => p2 d hj hi
  obtain ⟨dj, ej, fj⟩ := stepL_any sj
  have ai := ag_step ej p1
  have bi := agD_step ej p2
  have fin : ∀ (di : DV) (T1 : LS), S2.sl = putD S1.sl i.dst di → T1.sl = putD S.sl i.dst di → okStep .weak j T1 = true → (∃ e, stepL Γ j T1 = some ⟨putD T1.sl j.dst e, S2.ob⟩ ∧ S1.sl = putD S.sl j.dst e) → okStep .weak j T1 = true ∧ stepL Γ j T1 = some S2 := by
    rintro di T1 e2 e1 ho ⟨e, hs, he⟩
    refine ⟨ho, ?_⟩
    rw [hs]
    congr 1
    exact ls_eq (by rw [e2, e1, he]; exact putD_comm p2 S.sl) rfl
  cases hi : i.k.isW with
  | false =>
    have hqi : wquiet i S1 = true := by simpa [okStep, hi] using oi
    obtain ⟨obi, _⟩ := stepL_nonW hi si
    obtain ⟨di, ei, gi, wi, mi⟩ := stepL_wquiet hpi hi hqi si
    cases hj : j.k.isW with
    | false =>
      have hqj : wquiet j S = true := by simpa [okStep, hj] using oj
      obtain ⟨obj, _⟩ := stepL_nonW hj sj
      obtain ⟨dj', ej', gj, wj, mj⟩ := stepL_wquiet hpj hj hqj sj
      have s1 := gi S ai.1 (fun k _ => by rw [obj])
      have w1 := wi S ai.1 bi.1 (fun k _ => by rw [obj])
      have aj := ag_step (S := S) (S1 := ⟨putD S.sl i.dst di, S.ob⟩) rfl p3
      have bj := agD_step (S := S) (S1 := ⟨putD S.sl i.dst di, S.ob⟩) rfl p2'
      refine ⟨⟨putD S.sl i.dst di, S.ob⟩, by simp [okStep, hi, w1], s1, fin di _ ei rfl ?_ ⟨dj', ?_, ej'⟩⟩
      · have := wj ⟨putD S.sl i.dst di, S.ob⟩ aj.2 bj.2 (fun k _ => rfl)
        simp [okStep, hj, this]
      · rw [gj ⟨putD S.sl i.dst di, S.ob⟩ aj.2 (fun k _ => rfl), obi, obj]
    | true =>
      have haj : adds j S = true := by simpa [okStep, hj] using oj
      -- what i looks at in S1 is as in S: its arguments are those of S
      have same : ∀ k, Env.mentions k S.sl = true → lookO S1.ob k = lookO S.ob k := fun k hk => stepL_keep hj haj sj hk
      have hargs : ∀ x ∈ i.args.map S1.get, ∀ k, x.mentions k = true → Env.mentions k S.sl = true := by
        intro x hx k hk
        rw [ai.1.get] at hx
        exact args_plain hpi hx hk
      obtain ⟨di', ei', gi', wi', mi'⟩ := stepL_wquietA hi hargs hqi si
      have s1 := gi' S ai.1 (fun k hk => (same k hk).symm)
      have w1 := wi' S ai.1 bi.1 (fun k hk => (same k hk).symm)
      have aj := ag_step (S := S) (S1 := ⟨putD S.sl i.dst di', S.ob⟩) rfl p3
      refine ⟨⟨putD S.sl i.dst di', S.ob⟩, by simp [okStep, hi, w1], s1, fin di' _ ei' rfl ?_ ⟨dj, ?_, ej⟩⟩
      · simp only [okStep, hj, if_true]
        rw [adds_congr aj.1]; exact haj
      · rw [fj ⟨putD S.sl i.dst di', S.ob⟩ ⟨aj.2, rfl, fun k => mi' S ai.1 bi.1 k⟩, obi]
  | true =>
    have hj : j.k.isW = false := by
      cases hj : j.k.isW with
      | false => rfl
      | true => exact absurd ⟨hj, hi⟩ hw
    have hqj : wquiet j S = true := by simpa [okStep, hj] using oj
    have hai : adds i S1 = true := by simpa [okStep, hi] using oi
    obtain ⟨obj, _⟩ := stepL_nonW hj sj
    obtain ⟨dj', ej', gj, wj, mj⟩ := stepL_wquiet hpj hj hqj sj
    obtain ⟨di, ei, fi⟩ := stepL_any si
    have s1 := fi S ⟨ai.1, obj.symm, fun k => by rw [ej']; exact (mj S (fun t _ => rfl) (fun t _ => rfl) k).symm⟩
    have hai' : adds i S = true := by rw [← adds_congr ai.1]; exact hai
    have same : ∀ k, Env.mentions k S.sl = true → lookO S2.ob k = lookO S.ob k := fun k hk => stepL_keep hi hai' s1 hk
    have aj := ag_step (S := S) (S1 := ⟨putD S.sl i.dst di, S2.ob⟩) rfl p3
    have bj := agD_step (S := S) (S1 := ⟨putD S.sl i.dst di, S2.ob⟩) rfl p2'
    refine ⟨⟨putD S.sl i.dst di, S2.ob⟩, by simp [okStep, hi, hai'], s1, fin di _ ei rfl ?_ ⟨dj', ?_, ej'⟩⟩
    · have := wj ⟨putD S.sl i.dst di, S2.ob⟩ aj.2 bj.2 same
      simp [okStep, hj, this]
    · rw [gj ⟨putD S.sl i.dst di, S2.ob⟩ aj.2 same]

/-- A step that looks at nothing but 'L'. -/
theorem stepL_foot {Γ : Fns} {L : List Nat} {o : LOp} {S S1 : LS} {M : Nat → Prop} (hk : o.k.isW = false) (hM : ∀ x ∈ o.args.map S.get, ∀ k, x.mentions k = true → k ∈ L → M k) (ho : okStep (.foot L) o S = true) (h : stepL Γ o S = some S1) :
    ∃ d, S1.sl = putD S.sl o.dst d ∧ (∀ T, Ag o S T → (∀ k, M k → lookO T.ob k = lookO S.ob k) → stepL Γ o T = some ⟨putD T.sl o.dst d, T.ob⟩) ∧
      (∀ T, Ag o S T → AgD o S T → (∀ k, M k → lookO T.ob k = lookO S.ob k) → okStep (.foot L) o T = true) ∧ ∀ T, Ag o S T → AgD o S T → ∀ k, Env.mentions k (putD T.sl o.dst d) = Env.mentions k T.sl := by
  simp only [okStep, hk, Bool.false_eq_true, if_false, Bool.or_eq_true, Bool.and_eq_true] at ho
  rcases ho with hq | ⟨hq, hin⟩
  · obtain ⟨d, h1, h2, h3⟩ := stepL_quiet hk hq h
    exact ⟨d, h1, fun T ha _ => h2 T ha, fun T ha hd _ => by simp only [okStep, hk, Bool.false_eq_true, if_false]; rw [← quiet_congr hk ha hd, hq]; rfl, h3⟩
  · obtain ⟨d, h1, h2, h3, h4⟩ := stepL_wquietA (M := M) hk (fun x hx k hkm => hM x hx k hkm (argsIn_spec hin hx hkm)) hq h
    refine ⟨d, h1, h2, fun T ha hd hl => ?_, h4⟩
    simp only [okStep, hk, Bool.false_eq_true, if_false]
    rw [h3 T ha hd hl, ← ha.get, hin]; simp

/-- Two neighbours, exchanged, where what is looked at is not what is changed. -/
theorem swap_foot {Γ : Fns} {L : List Nat} {i j : LOp} (hpi : plainO i = true) (hpj : plainO j = true) (hap : apartL j i = true) (hw : ¬ (j.k.isW = true ∧ i.k.isW = true)) {S S1 S2 : LS} (oj : okStep (.foot L) j S = true) (sj : stepL Γ j S = some S1) (oi : okStep (.foot L) i S1 = true) (si : stepL Γ i S1 = some S2) :
    ∃ T1, okStep (.foot L) i S = true ∧ stepL Γ i S = some T1 ∧ okStep (.foot L) j T1 = true ∧ stepL Γ j T1 = some S2 := by
  obtain ⟨p1, p2, p3⟩ := apartL_spec hap
  have p2' : ∀ d, i.dst = some d → j.dst ≠ some d := fun d hi hj => p2 d hj hi
  obtain ⟨dj, ej, fj⟩ := stepL_any sj
  have ai := ag_step ej p1
  have bi := agD_step ej p2
  have fin : ∀ (di : DV) (T1 : LS), S2.sl = putD S1.sl i.dst di → T1.sl = putD S.sl i.dst di → okStep (.foot L) j T1 = true → (∃ e, stepL Γ j T1 = some ⟨putD T1.sl j.dst e, S2.ob⟩ ∧ S1.sl = putD S.sl j.dst e) → okStep (.foot L) j T1 = true ∧ stepL Γ j T1 = some S2 := by
    rintro di T1 e2 e1 ho ⟨e, hs, he⟩
    refine ⟨ho, ?_⟩
    rw [hs]
    congr 1
    exact ls_eq (by rw [e2, e1, he]; exact putD_comm p2 S.sl) rfl
  cases hi : i.k.isW with
  | false =>
    obtain ⟨obi, _⟩ := stepL_nonW hi si
    cases hj : j.k.isW with
    | false =>
      obtain ⟨obj, _⟩ := stepL_nonW hj sj
      obtain ⟨di, ei, gi, wi, mi⟩ := stepL_foot (M := fun _ => True) hi (fun _ _ _ _ _ => trivial) oi si
      obtain ⟨dj', ej', gj, wj, mj⟩ := stepL_foot (M := fun _ => True) hj (fun _ _ _ _ _ => trivial) oj sj
      have s1 := gi S ai.1 (fun k _ => by rw [obj])
      have w1 := wi S ai.1 bi.1 (fun k _ => by rw [obj])
      have aj := ag_step (S := S) (S1 := ⟨putD S.sl i.dst di, S.ob⟩) rfl p3
      have bj := agD_step (S := S) (S1 := ⟨putD S.sl i.dst di, S.ob⟩) rfl p2'
      refine ⟨⟨putD S.sl i.dst di, S.ob⟩, w1, s1, fin di _ ei rfl (wj _ aj.2 bj.2 (fun k _ => rfl)) ⟨dj', ?_, ej'⟩⟩
      rw [gj ⟨putD S.sl i.dst di, S.ob⟩ aj.2 (fun k _ => rfl), obi, obj]
    | true =>
      have haj : clears L j S = true := by simpa [okStep, hj] using oj
      obtain ⟨di', ei', gi', wi', mi'⟩ := stepL_foot (M := fun k => Env.mentions k S.sl = true ∧ k ∈ L) hi (fun x hx k hk hL => ⟨by rw [ai.1.get] at hx; exact args_plain hpi hx hk, hL⟩) oi si
      have same : ∀ k, Env.mentions k S.sl = true ∧ k ∈ L → lookO S.ob k = lookO S1.ob k := fun k hk => (stepL_keepL hj haj sj hk.1 hk.2).symm
      have s1 := gi' S ai.1 same
      have w1 := wi' S ai.1 bi.1 same
      have aj := ag_step (S := S) (S1 := ⟨putD S.sl i.dst di', S.ob⟩) rfl p3
      refine ⟨⟨putD S.sl i.dst di', S.ob⟩, w1, s1, fin di' _ ei' rfl ?_ ⟨dj, ?_, ej⟩⟩
      · simp only [okStep, hj, if_true]
        rw [clears_congr aj.1]; exact haj
      · rw [fj ⟨putD S.sl i.dst di', S.ob⟩ ⟨aj.2, rfl, fun k => mi' S ai.1 bi.1 k⟩, obi]
  | true =>
    have hj : j.k.isW = false := by
      cases hj : j.k.isW with
      | false => rfl
      | true => exact absurd ⟨hj, hi⟩ hw
    have hai : clears L i S1 = true := by simpa [okStep, hi] using oi
    obtain ⟨obj, _⟩ := stepL_nonW hj sj
    obtain ⟨dj', ej', gj, wj, mj⟩ := stepL_foot (M := fun k => Env.mentions k S.sl = true ∧ k ∈ L) hj (fun x hx k hk hL => ⟨args_plain hpj hx hk, hL⟩) oj sj
    obtain ⟨di, ei, fi⟩ := stepL_any si
    have s1 := fi S ⟨ai.1, obj.symm, fun k => by rw [ej']; exact (mj S (fun t _ => rfl) (fun t _ => rfl) k).symm⟩
    have hai' : clears L i S = true := by rw [← clears_congr ai.1]; exact hai
    have same : ∀ k, Env.mentions k S.sl = true ∧ k ∈ L → lookO S2.ob k = lookO S.ob k := fun k hk => stepL_keepL hi hai' s1 hk.1 hk.2
    have aj := ag_step (S := S) (S1 := ⟨putD S.sl i.dst di, S2.ob⟩) rfl p3
    have bj := agD_step (S := S) (S1 := ⟨putD S.sl i.dst di, S2.ob⟩) rfl p2'
    refine ⟨⟨putD S.sl i.dst di, S2.ob⟩, by simp [okStep, hi, hai'], s1, fin di _ ei rfl (wj _ aj.2 bj.2 same) ⟨dj', ?_, ej'⟩⟩
    rw [gj ⟨putD S.sl i.dst di, S2.ob⟩ aj.2 same]

theorem runD_cons {Γ : Fns} {q : Mode} {o : LOp} {os : List LOp} {S Sf : LS} : runD Γ q (o :: os) S = some Sf ↔ okStep q o S = true ∧ ∃ S1, stepL Γ o S = some S1 ∧ runD Γ q os S1 = some Sf := by
  simp only [runD]
  constructor
  · intro h
    split at h
    · rename_i ho
      split at h
      · rename_i S1 hs
        exact ⟨ho, S1, hs, h⟩
      · cases h
    · cases h
  · rintro ⟨ho, S1, hs, h⟩
    rw [if_pos ho, hs]
    exact h

/-- What is asked of two that may be exchanged. -/
def Exch (q : Mode) (j i : LOp) : Prop := apartL j i = true ∧ ¬ (j.k.isW = true ∧ i.k.isW = true) ∧ (j.k.isW = true ∨ i.k.isW = true → q ≠ .free) ∧ plainO j = true ∧ plainO i = true
theorem swap_any {Γ : Fns} {q : Mode} {i j : LOp} (hx : Exch q j i) {S S1 S2 : LS} (oj : okStep q j S = true) (sj : stepL Γ j S = some S1) (oi : okStep q i S1 = true) (si : stepL Γ i S1 = some S2) :
    ∃ T1, okStep q i S = true ∧ stepL Γ i S = some T1 ∧ okStep q j T1 = true ∧ stepL Γ j T1 = some S2 := by
  obtain ⟨h1, h2, h3, h4, h5⟩ := hx
  cases q with
  | weak => exact swap_weak h5 h4 h1 h2 oj sj oi si
  | foot L => exact swap_foot h5 h4 h1 h2 oj sj oi si
  | strong => exact swap_ok (by simp) h1 h2 (fun _ => rfl) oj sj oi si
  | free => exact swap_ok (by simp) h1 h2 (fun h => absurd rfl (h3 h)) oj sj oi si
/-- One that need not wait, done first. -/
theorem bubble {Γ : Fns} {q : Mode} {i : LOp} {l2 : List LOp} : ∀ {l1 : List LOp} {S Sf : LS}, (∀ j ∈ l1, Exch q j i) →
    runD Γ q (l1 ++ i :: l2) S = some Sf → okStep q i S = true ∧ ∃ T1, stepL Γ i S = some T1 ∧ runD Γ q (l1 ++ l2) T1 = some Sf
  | [], S, Sf, _, h => runD_cons.1 h
  | j :: l1, S, Sf, hc, h => by
    obtain ⟨oj, S1, sj, hr⟩ := runD_cons.1 h
    obtain ⟨oi, S2, si, hr2⟩ := bubble (fun x hx => hc x (List.mem_cons_of_mem _ hx)) hr
    obtain ⟨T1, q1, q2, q3, q4⟩ := swap_any (hc j (List.mem_cons_self ..)) oj sj oi si
    exact ⟨q1, T1, q2, runD_cons.2 ⟨q3, S2, q4, hr2⟩⟩
end Go.Lg
