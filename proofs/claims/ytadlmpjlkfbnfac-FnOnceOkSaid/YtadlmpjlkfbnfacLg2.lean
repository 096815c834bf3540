/- Part 2 of a logical reading of translated Go: what a frame holds is said by lists, and each operation is proved against the model. No conditions. -/
import Derived.Test.YtadlmpjlkfbnfacLg1
namespace Go.Lg

def Le (Γ Δ : Fns) : Prop := ∀ f a r, Γ f a = some r → Δ f a = some r
theorem Le.refl (Γ : Fns) : Le Γ Γ := fun _ _ _ h => h
theorem Le.trans {Γ Δ Θ : Fns} (h : Le Γ Δ) (k : Le Δ Θ) : Le Γ Θ := fun _ _ _ e => k _ _ _ (h _ _ _ e)

theorem callD_mono {Γ Δ : Fns} (h : Le Γ Δ) {fr : Nat → Bool} {f id : Nat} {xs : List DV} {ob : OB} {r} (e : callD Γ fr f id xs ob = some r) : callD Δ fr f id xs ob = some r := by
  unfold callD at *
  split at e
  · exact e
  · rename_i as has
    split at e
    · cases e
    · rename_i r0 outs hr
      rw [h _ _ _ hr]
      exact e

theorem eff_call (Γ : Fns) (fr : Nat → Bool) (f id : Nat) (xs : List DV) (ob : OB) : eff Γ fr (.call f id) xs ob = callD Γ fr f id xs ob := by
  unfold eff; rfl

theorem eff_mono {Γ Δ : Fns} (h : Le Γ Δ) {fr : Nat → Bool} {k : K} {xs : List DV} {ob : OB} {r} (e : eff Γ fr k xs ob = some r) : eff Δ fr k xs ob = some r := by
  cases k with
  | call f id => rw [eff_call] at *; exact callD_mono h e
  | _ => exact e

theorem stepL_mono {Γ Δ : Fns} (h : Le Γ Δ) {o : LOp} {S S1 : LS} (e : stepL Γ o S = some S1) : stepL Δ o S = some S1 := by
  have key : ∀ {r}, eff Γ (fun id => !(id % 8 == 7) && !Env.mentions id S.sl) o.k (o.args.map S.get) S.ob = some r → eff Δ (fun id => !(id % 8 == 7) && !Env.mentions id S.sl) o.k (o.args.map S.get) S.ob = some r := fun e => eff_mono h e
  have go : ∀ {x y : Option (DV × OB)} {g : DV × OB → Option LS}, (∀ r, x = some r → y = some r) → (match x with | some (v, ob) => g (v, ob) | none => none) = some S1 → (match y with | some (v, ob) => g (v, ob) | none => none) = some S1 := by
    intro x y g hxy e
    cases x with
    | none => cases e
    | some r => rw [hxy r rfl]; exact e
  unfold stepL at *
  simp only at *
  split at e
  · exact go (g := fun p => some { sl := putD S.sl o.dst p.1, ob := p.2 }) (fun _ => key) e
  · split at e
    · split at e
      · rename_i hx; rw [if_pos hx]; exact go (g := fun p => some { sl := putD S.sl o.dst p.1, ob := p.2 }) (fun _ => key) e
      · rename_i hx; rw [if_neg hx]; exact e
    · exact e
    · cases e

theorem runL_mono {Γ Δ : Fns} (h : Le Γ Δ) : ∀ {ops : List LOp} {S S1 : LS}, runL Γ ops S = some S1 → runL Δ ops S = some S1
  | [], _, _, e => e
  | o :: os, S, S1, e => by
    simp only [runL] at *
    cases hs : stepL Γ o S with
    | none => rw [hs] at e; cases e
    | some S2 => rw [hs] at e; rw [stepL_mono h hs]; exact runL_mono h e

theorem runD_mono {Γ Δ : Fns} (h : Le Γ Δ) {q : Mode} : ∀ {ops : List LOp} {S S1 : LS}, runD Γ q ops S = some S1 → runD Δ q ops S = some S1
  | [], _, _, e => e
  | o :: os, S, S1, e => by
    simp only [runD] at *
    split at e
    · rename_i ho
      rw [if_pos ho]
      cases hs : stepL Γ o S with
      | none => rw [hs] at e; cases e
      | some S2 => rw [hs] at e; rw [stepL_mono h hs]; exact runD_mono h e
    · cases e
theorem runD_runL {Γ : Fns} {q : Mode} : ∀ {ops : List LOp} {S S1 : LS}, runD Γ q ops S = some S1 → runL Γ ops S = some S1
  | [], _, _, e => e
  | o :: os, S, S1, e => by
    simp only [runD, runL] at *
    split at e
    · cases hs : stepL Γ o S with
      | none => rw [hs] at e; cases e
      | some S2 => rw [hs] at e; exact runD_runL e
    · cases e
theorem runR_some {Γ : Fns} {q : Mode} {ops : List LOp} {S S1 : LS} (hq : q = modeOf ops ∨ q = .weak ∨ q = .foot (ownIds S.sl)) (h : runD Γ q ops S = some S1) : runR Γ true ops S = some S1 := by
  have hl := runD_runL h
  have same : ∀ {q' : Mode} {S2 : LS}, runD Γ q' ops S = some S2 → S2 = S1 := fun h2 => by
    have := runD_runL h2; rw [hl] at this; injection this with this; exact this.symm
  simp only [runR]
  cases h1 : runD Γ (modeOf ops) ops S with
  | some S2 => simp only [same h1]
  | none =>
    simp only
    cases h2 : runD Γ .weak ops S with
    | some S2 => simp only [same h2]
    | none =>
      rcases hq with rfl | rfl | rfl
      · rw [h1] at h; cases h
      · rw [h2] at h; cases h
      · exact h
theorem runR_ex {Γ : Fns} {ops : List LOp} {S S1 : LS} (h : runR Γ true ops S = some S1) : ∃ q, (q = modeOf ops ∨ q = .weak ∨ q = .foot (ownIds S.sl)) ∧ runD Γ q ops S = some S1 := by
  simp only [runR] at h
  cases h1 : runD Γ (modeOf ops) ops S with
  | some S2 => rw [h1] at h; exact ⟨_, .inl rfl, h1.trans h⟩
  | none =>
    rw [h1] at h
    simp only at h
    cases h2 : runD Γ .weak ops S with
    | some S2 => rw [h2] at h; exact ⟨_, .inr (.inl rfl), h2.trans h⟩
    | none => rw [h2] at h; exact ⟨_, .inr (.inr rfl), h⟩
theorem runR_mono {Γ Δ : Fns} (h : Le Γ Δ) {d : Bool} {ops : List LOp} {S S1 : LS} (e : runR Γ d ops S = some S1) : runR Δ d ops S = some S1 := by
  cases d with
  | false => exact runL_mono h e
  | true =>
    obtain ⟨q, hq, hr⟩ := runR_ex e
    exact runR_some hq (runD_mono h hr)

theorem regionL_mono {Γ Δ : Fns} (h : Le Γ Δ) {d : Bool} {ops : List LOp} {kill : List Nat} {S S1 : LS} (e : regionL Γ d ops kill S = some S1) : regionL Δ d ops kill S = some S1 := by
  unfold regionL at *
  cases hs : runR Γ d ops S with
  | none => rw [hs] at e; cases e
  | some S2 => rw [hs] at e; rw [runR_mono h hs]; exact e

theorem iter_mono {f g : LS → Option (Ex × LS)} (h : ∀ S r, f S = some r → g S = some r) : ∀ {n m : Nat}, n ≤ m → ∀ {S : LS} {r}, iter n f S = some r → iter m g S = some r
  | 0, _, _, _, _, e => by cases e
  | n + 1, 0, hm, _, _, _ => absurd hm (by omega)
  | n + 1, m + 1, hm, S, r, e => by
    simp only [iter] at *
    cases hf : f S with
    | none => rw [hf] at e; cases e
    | some p =>
      rw [hf] at e
      rw [h _ _ hf]
      obtain ⟨x, S1⟩ := p
      cases x with
      | normal => exact iter_mono h (by omega) e
      | exit id => exact e
      | ret => exact e

theorem exec_mono {Γ Δ : Fns} (h : Le Γ Δ) {n m : Nat} (hm : n ≤ m) : ∀ (c : LC) {S : LS} {r}, exec Γ n c S = some r → exec Δ m c S = some r
  | .skip, _, _, e => e
  | .ret, _, _, e => e
  | .exit _, _, _, e => e
  | .region d ops kill, S, r, e => by
    simp only [exec] at *
    cases hs : regionL Γ d ops kill S with
    | none => rw [hs] at e; cases e
    | some S2 => rw [hs] at e; rw [regionL_mono h hs]; exact e
  | .seq a b, S, r, e => by
    simp only [exec] at *
    cases ha : exec Γ n a S with
    | none => rw [ha] at e; cases e
    | some p =>
      rw [ha] at e
      rw [exec_mono h hm a ha]
      obtain ⟨x, S1⟩ := p
      cases x with
      | normal => exact exec_mono h hm b e
      | exit id => exact e
      | ret => exact e
  | .cond c kill x y, S, r, e => by
    simp only [exec] at *
    split at e
    · exact exec_mono h hm x e
    · exact exec_mono h hm y e
    · cases e
  | .block id b, S, r, e => by
    simp only [exec] at *
    cases ha : exec Γ n b S with
    | none => rw [ha] at e; cases e
    | some p => rw [ha] at e; rw [exec_mono h hm b ha]; exact e
  | .loop b, S, r, e => by
    simp only [exec] at *
    exact iter_mono (fun S r e => exec_mono h hm b e) hm e
  | .ghost g c, S, r, e => by
    simp only [exec] at *
    cases hg : ghostL g S with
    | none => rw [hg] at e; cases e
    | some S1 => rw [hg] at e; exact exec_mono h hm c e

theorem callN_le (lf : Nat → Option LF) : ∀ n, Le (callN lf n) (callN lf (n + 1))
  | 0 => fun _ _ _ e => by cases e
  | n + 1 => fun f args r e => by
    rw [callN] at e ⊢
    cases hF : lf f with
    | none => rw [hF] at e; cases e
    | some F =>
      rw [hF] at e
      simp only at *
      split at e
      · rename_i hl
        rw [if_pos hl]
        cases hx : exec (callN lf n) n F.body (enter 0 args ⟨[], []⟩) with
        | none => rw [hx] at e; cases e
        | some p => rw [hx] at e; rw [exec_mono (callN_le lf n) (Nat.le_succ n) _ hx]; exact e
      · cases e

theorem callN_mono (lf : Nat → Option LF) {n m : Nat} (h : n ≤ m) : Le (callN lf n) (callN lf m) := by
  induction h with
  | refl => exact Le.refl _
  | step _ ih => exact ih.trans (callN_le lf _)

open Classical in
/-- What a call comes to, whatever the fuel. -/
noncomputable def call (lf : Nat → Option LF) : Fns := fun f args => if h : ∃ r n, callN lf n f args = some r then some h.choose else none

theorem call_iff {lf : Nat → Option LF} {f : Nat} {args : List DV} {r} : call lf f args = some r ↔ ∃ n, callN lf n f args = some r := by
  unfold call
  constructor
  · intro e
    split at e
    · rename_i h
      injection e with e
      rw [← e]
      exact h.choose_spec
    · cases e
  · rintro ⟨n, hn⟩
    have h : ∃ r n, callN lf n f args = some r := ⟨r, n, hn⟩
    rw [dif_pos h]
    obtain ⟨m, hm⟩ := h.choose_spec
    have h1 := callN_mono lf (Nat.le_max_left n m) _ _ _ hn
    have h2 := callN_mono lf (Nat.le_max_right n m) _ _ _ hm
    rw [h1] at h2
    exact h2.symm

theorem callN_call (lf : Nat → Option LF) (n : Nat) : Le (callN lf n) (call lf) := fun _ _ _ h => call_iff.2 ⟨n, h⟩

open Classical in
noncomputable def ex (lf : Nat → Option LF) (c : LC) (S : LS) : Option (Ex × LS) := if h : ∃ r n, exec (callN lf n) n c S = some r then some h.choose else none

theorem execN_mono (lf : Nat → Option LF) {n m : Nat} (h : n ≤ m) {c : LC} {S : LS} {r} (e : exec (callN lf n) n c S = some r) : exec (callN lf m) m c S = some r := exec_mono (callN_mono lf h) h c e

theorem ex_iff {lf : Nat → Option LF} {c : LC} {S : LS} {r} : ex lf c S = some r ↔ ∃ n, exec (callN lf n) n c S = some r := by
  unfold ex
  constructor
  · intro e
    split at e
    · rename_i h
      injection e with e
      rw [← e]
      exact h.choose_spec
    · cases e
  · rintro ⟨n, hn⟩
    have h : ∃ r n, exec (callN lf n) n c S = some r := ⟨r, n, hn⟩
    rw [dif_pos h]
    obtain ⟨m, hm⟩ := h.choose_spec
    have h1 := execN_mono lf (Nat.le_max_left n m) hn
    have h2 := execN_mono lf (Nat.le_max_right n m) hm
    rw [h1] at h2
    exact h2.symm

theorem opt_ext {α : Type} {a b : Option α} (h : ∀ r, a = some r ↔ b = some r) : a = b := by
  cases a with
  | none => cases b with
    | none => rfl
    | some y => have := (h y).2 rfl; cases this
  | some x => exact ((h x).1 rfl).symm

theorem eff_lim {lf : Nat → Option LF} {fr : Nat → Bool} {k : K} {xs : List DV} {ob : OB} {r} (e : eff (call lf) fr k xs ob = some r) : ∃ n, eff (callN lf n) fr k xs ob = some r := by
  cases k with
  | call f id =>
    simp only [eff_call] at *
    unfold callD at *
    split at e
    · cases e
    · rename_i as has
      split at e
      · cases e
      · rename_i r0 outs hr
        obtain ⟨n, hn⟩ := call_iff.1 hr
        exact ⟨n, by rw [hn]; exact e⟩
  | _ => exact ⟨0, e⟩

theorem stepL_lim {lf : Nat → Option LF} {o : LOp} {S S1 : LS} (e : stepL (call lf) o S = some S1) : ∃ n, stepL (callN lf n) o S = some S1 := by
  cases hx : eff (call lf) (fun id => !(id % 8 == 7) && !Env.mentions id S.sl) o.k (o.args.map S.get) S.ob with
  | none =>
    refine ⟨0, ?_⟩
    unfold stepL at *
    simp only [hx] at e
    simp only
    split at e
    · cases e
    · split at e
      · split at e
        · cases e
        · rename_i h; rw [if_neg h]; exact e
      · exact e
      · cases e
  | some r =>
    obtain ⟨n, hn⟩ := eff_lim hx
    refine ⟨n, ?_⟩
    unfold stepL at *
    simp only [hx, hn] at *
    exact e

theorem runL_lim {lf : Nat → Option LF} : ∀ {ops : List LOp} {S S1 : LS}, runL (call lf) ops S = some S1 → ∃ n, runL (callN lf n) ops S = some S1
  | [], _, _, e => ⟨0, e⟩
  | o :: os, S, S1, e => by
    simp only [runL] at *
    cases hs : stepL (call lf) o S with
    | none => rw [hs] at e; cases e
    | some S2 =>
      rw [hs] at e
      obtain ⟨n, hn⟩ := stepL_lim hs
      obtain ⟨m, hm⟩ := runL_lim e
      refine ⟨max n m, ?_⟩
      rw [stepL_mono (callN_mono lf (Nat.le_max_left n m)) hn]
      exact runL_mono (callN_mono lf (Nat.le_max_right n m)) hm

theorem runD_lim {lf : Nat → Option LF} {q : Mode} : ∀ {ops : List LOp} {S S1 : LS}, runD (call lf) q ops S = some S1 → ∃ n, runD (callN lf n) q ops S = some S1
  | [], _, _, e => ⟨0, e⟩
  | o :: os, S, S1, e => by
    simp only [runD] at *
    split at e
    · rename_i ho
      cases hs : stepL (call lf) o S with
      | none => rw [hs] at e; cases e
      | some S2 =>
        rw [hs] at e
        obtain ⟨n, hn⟩ := stepL_lim hs
        obtain ⟨m, hm⟩ := runD_lim e
        refine ⟨max n m, ?_⟩
        rw [if_pos ho, stepL_mono (callN_mono lf (Nat.le_max_left n m)) hn]
        exact runD_mono (callN_mono lf (Nat.le_max_right n m)) hm
    · cases e
theorem runR_lim {lf : Nat → Option LF} {d : Bool} {ops : List LOp} {S S1 : LS} (e : runR (call lf) d ops S = some S1) : ∃ n, runR (callN lf n) d ops S = some S1 := by
  cases d with
  | false => exact runL_lim e
  | true =>
    obtain ⟨q, hq, hr⟩ := runR_ex e
    obtain ⟨n, hn⟩ := runD_lim hr
    exact ⟨n, runR_some hq hn⟩

theorem regionL_lim {lf : Nat → Option LF} {d : Bool} {ops : List LOp} {kill : List Nat} {S S1 : LS} (e : regionL (call lf) d ops kill S = some S1) : ∃ n, regionL (callN lf n) d ops kill S = some S1 := by
  unfold regionL at *
  cases hs : runR (call lf) d ops S with
  | none => rw [hs] at e; cases e
  | some S2 =>
    rw [hs] at e
    obtain ⟨n, hn⟩ := runR_lim hs
    exact ⟨n, by rw [hn]; exact e⟩

section
variable (lf : Nat → Option LF)
theorem ex_skip (S : LS) : ex lf .skip S = some (.normal, S) := ex_iff.2 ⟨0, rfl⟩
theorem ex_ret (S : LS) : ex lf .ret S = some (.ret, S) := ex_iff.2 ⟨0, rfl⟩
theorem ex_exit (id : Nat) (S : LS) : ex lf (.exit id) S = some (.exit id, S) := ex_iff.2 ⟨0, rfl⟩
theorem ex_region (d : Bool) (ops : List LOp) (kill : List Nat) (S : LS) : ex lf (.region d ops kill) S = match regionL (call lf) d ops kill S with | some S1 => some (.normal, S1) | none => none := by
  apply opt_ext
  intro r
  rw [ex_iff]
  constructor
  · rintro ⟨n, hn⟩
    simp only [exec] at hn
    cases hs : regionL (callN lf n) d ops kill S with
    | none => rw [hs] at hn; cases hn
    | some S2 => rw [hs] at hn; rw [regionL_mono (callN_call lf n) hs]; exact hn
  · intro e
    cases hs : regionL (call lf) d ops kill S with
    | none => rw [hs] at e; cases e
    | some S2 =>
      rw [hs] at e
      obtain ⟨n, hn⟩ := regionL_lim hs
      exact ⟨n, by simp only [exec, hn]; exact e⟩
theorem ex_seq (a b : LC) (S : LS) : ex lf (.seq a b) S = match ex lf a S with | some (.normal, S1) => ex lf b S1 | r => r := by
  apply opt_ext
  intro r
  rw [ex_iff]
  constructor
  · rintro ⟨n, hn⟩
    simp only [exec] at hn
    cases hs : exec (callN lf n) n a S with
    | none => rw [hs] at hn; cases hn
    | some p =>
      rw [hs] at hn
      rw [ex_iff.2 ⟨n, hs⟩]
      obtain ⟨x, S1⟩ := p
      cases x with
      | normal => exact ex_iff.2 ⟨n, hn⟩
      | exit id => exact hn
      | ret => exact hn
  · intro e
    cases hs : ex lf a S with
    | none => rw [hs] at e; cases e
    | some p =>
      rw [hs] at e
      obtain ⟨n, hn⟩ := ex_iff.1 hs
      obtain ⟨x, S1⟩ := p
      cases x with
      | normal =>
        obtain ⟨m, hm⟩ := ex_iff.1 e
        refine ⟨max n m, ?_⟩
        simp only [exec, execN_mono lf (Nat.le_max_left n m) hn]
        exact execN_mono lf (Nat.le_max_right n m) hm
      | exit id => exact ⟨n, by simp only [exec, hn]; exact e⟩
      | ret => exact ⟨n, by simp only [exec, hn]; exact e⟩
theorem ex_cond (c : Opd) (kill : List Nat) (x y : LC) (S : LS) : ex lf (.cond c kill x y) S = match S.get c with | .b true => ex lf x (S.drop kill) | .b false => ex lf y (S.drop kill) | _ => none := by
  apply opt_ext
  intro r
  rw [ex_iff]
  simp only [exec]
  cases S.get c <;> try (simp; done)
  rename_i t
  cases t <;> simp only <;> exact ex_iff.symm
theorem ex_block (id : Nat) (b : LC) (S : LS) : ex lf (.block id b) S = match ex lf b S with | some (.exit j, S1) => if j = id then some (.normal, S1) else some (.exit j, S1) | r => r := by
  apply opt_ext
  intro r
  rw [ex_iff]
  constructor
  · rintro ⟨n, hn⟩
    simp only [exec] at hn
    cases hs : exec (callN lf n) n b S with
    | none => rw [hs] at hn; cases hn
    | some p => rw [hs] at hn; rw [ex_iff.2 ⟨n, hs⟩]; exact hn
  · intro e
    cases hs : ex lf b S with
    | none => rw [hs] at e; cases e
    | some p =>
      rw [hs] at e
      obtain ⟨n, hn⟩ := ex_iff.1 hs
      exact ⟨n, by simp only [exec, hn]; exact e⟩
theorem ex_loop (b : LC) (S : LS) : ex lf (.loop b) S = match ex lf b S with | some (.normal, S1) => ex lf (.loop b) S1 | r => r := by
  apply opt_ext
  intro r
  rw [ex_iff]
  constructor
  · rintro ⟨n, hn⟩
    simp only [exec] at hn
    cases n with
    | zero => cases hn
    | succ n =>
      simp only [iter] at hn
      cases hs : exec (callN lf (n + 1)) (n + 1) b S with
      | none => rw [hs] at hn; cases hn
      | some p =>
        rw [hs] at hn
        rw [ex_iff.2 ⟨n + 1, hs⟩]
        obtain ⟨x, S1⟩ := p
        cases x with
        | normal => exact ex_iff.2 ⟨n + 1, by simp only [exec]; exact iter_mono (fun _ _ h => h) (Nat.le_succ n) hn⟩
        | exit id => exact hn
        | ret => exact hn
  · intro e
    cases hs : ex lf b S with
    | none => rw [hs] at e; cases e
    | some p =>
      rw [hs] at e
      obtain ⟨n, hn⟩ := ex_iff.1 hs
      obtain ⟨x, S1⟩ := p
      cases x with
      | normal =>
        obtain ⟨m, hm⟩ := ex_iff.1 e
        refine ⟨max n m + 1, ?_⟩
        simp only [exec] at hm ⊢
        simp only [iter, execN_mono lf (Nat.le_succ_of_le (Nat.le_max_left n m)) hn]
        exact iter_mono (fun S r h => execN_mono lf (Nat.le_succ_of_le (Nat.le_max_right n m)) h) (Nat.le_max_right n m) hm
      | exit id => exact ⟨n + 1, by simp only [exec, iter, execN_mono lf (Nat.le_succ n) hn]; exact e⟩
      | ret => exact ⟨n + 1, by simp only [exec, iter, execN_mono lf (Nat.le_succ n) hn]; exact e⟩
theorem ex_ghost (g : Ghost) (c : LC) (S : LS) : ex lf (.ghost g c) S = match ghostL g S with | some S1 => ex lf c S1 | none => none := by
  apply opt_ext
  intro r
  rw [ex_iff]
  simp only [exec]
  cases ghostL g S with
  | none => simp
  | some S1 => simp only; exact ex_iff.symm
theorem call_eq (f : Nat) (args : List DV) {F : LF} (hF : lf f = some F) (hn : args.length = F.nparams) :
    call lf f args = match ex lf F.body (enter 0 args ⟨[], []⟩) with | some (.normal, S) => leave F args S | some (.ret, S) => leave F args S | _ => none := by
  apply opt_ext
  intro r
  rw [call_iff]
  constructor
  · rintro ⟨n, h⟩
    cases n with
    | zero => cases h
    | succ n =>
      rw [callN, hF] at h
      simp only [hn, if_true] at h
      cases hs : exec (callN lf n) n F.body (enter 0 args ⟨[], []⟩) with
      | none => rw [hs] at h; cases h
      | some p => rw [hs] at h; rw [ex_iff.2 ⟨n, hs⟩]; exact h
  · intro e
    cases hs : ex lf F.body (enter 0 args ⟨[], []⟩) with
    | none => rw [hs] at e; cases e
    | some p =>
      rw [hs] at e
      obtain ⟨n, hx⟩ := ex_iff.1 hs
      refine ⟨n + 1, ?_⟩
      rw [callN, hF]
      simp only [hn, if_true, hx]
      exact e
end
end Go.Lg
