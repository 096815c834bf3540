/- Part 19 of a logical reading of translated Go: what a frame holds is said by lists, and each operation is proved against the model. No conditions. -/
import Derived.Test.YtadlmpjlkfbnfacLg18
namespace Go.Lg
open Go.RowKit
set_option linter.unusedVariables false

theorem lendL_map : ∀ ds : List DV, lendL ds = ds.map DV.lend
  | [] => rfl
  | d :: ds => by simp [lendL, lendL_map ds]
theorem adoptL_map (o : Bool) : ∀ ds : List DV, adoptL o ds = ds.map (DV.adopt o)
  | [] => rfl
  | d :: ds => by simp [adoptL, adoptL_map o ds]
theorem allNewL_all : ∀ ds : List DV, allNewL ds = ds.all DV.allNew
  | [] => rfl
  | d :: ds => by simp [allNewL, allNewL_all ds]
theorem lend_cells (d : DV) : d.lend.cells = lendL d.cells := by cases d <;> simp [DV.lend, DV.cells, lendL]
theorem adopt_cells (o : Bool) (d : DV) : (d.adopt o).cells = adoptL o d.cells := by cases d <;> simp [DV.adopt, DV.cells, adoptL]
theorem flat_lend : ∀ es : List DV, flat (lendL es) = lendL (flat es)
  | [] => rfl
  | e :: es => by
    have ih := flat_lend es
    rw [lendL, flat_cons, flat_cons, lend_cells, ih]
    simp [lendL_map]
theorem flat_adopt (o : Bool) : ∀ es : List DV, flat (adoptL o es) = adoptL o (flat es)
  | [] => rfl
  | e :: es => by
    have ih := flat_adopt o es
    rw [adoptL, flat_cons, flat_cons, adopt_cells, ih]
    simp [adoptL_map]
theorem allNew_flat {es : List DV} (h : allNewL es = true) : ∀ c ∈ flat es, c.allNew = true := by
  rw [allNewL_all, List.all_eq_true] at h
  intro c hc
  simp only [flat, List.mem_flatMap] at hc
  obtain ⟨e, he, hce⟩ := hc
  have h1 := h e he
  cases e with
  | st cs =>
    simp only [DV.cells] at hce
    simp only [DV.allNew, allNewL_all, List.all_eq_true] at h1
    exact h1 c hce
  | _ => simp only [DV.cells, List.mem_singleton] at hce; subst hce; exact h1
theorem lend_wid {es : List DV} {sz : Nat} (h : ∀ e ∈ es, e.cells.length = sz) : ∀ e ∈ lendL es, e.cells.length = sz := by
  intro e he
  rw [lendL_map] at he
  obtain ⟨x, hx, rfl⟩ := List.mem_map.1 he
  rw [lend_cells, lendL_map, List.length_map]
  exact h x hx
theorem adopt_wid {o : Bool} {es : List DV} {sz : Nat} (h : ∀ e ∈ es, e.cells.length = sz) : ∀ e ∈ adoptL o es, e.cells.length = sz := by
  intro e he
  rw [adoptL_map] at he
  obtain ⟨x, hx, rfl⟩ := List.mem_map.1 he
  rw [adopt_cells, adoptL_map, List.length_map]
  exact h x hx

theorem CR.lend_ {w : World} {B : Nat} {ok ok' : Nat → Prop} {d : DV} {v : Value} (h : CR w B ok d v) (any : Bool) (hd : any = true ∨ d.allOld = true) (hok : ∀ b, ok b → b < w.heap.size → (any = true ∨ b < B) → ok' b) : CR w w.heap.size ok' d.lend v := by
  induction h with
  | i n => exact .i n
  | y n hn => exact .y n hn
  | b x => exact .b x
  | s l => exact .s l
  | sl0 p A cap hm => exact .sl0 0 A cap hm
  | sl p es ad n cap sz xs hn h0 hc hm hsz hok1 hlt hold hnew hrow hl hcell hrec ih =>
    have hp : any = true ∨ (p = 0 ∧ allOldL es = true) := by
      rcases hd with h | h
      · exact .inl h
      · simp only [DV.allOld, Bool.and_eq_true, beq_iff_eq] at h; exact .inr h
    refine .sl 0 (lendL es) ad n cap sz xs (by rw [lendL_map, List.length_map]; exact hn) h0 hc hm (lend_wid hsz) (hok _ hok1 hlt (hp.imp _root_.id fun h => hold h.1)) hlt (fun _ => hlt) (fun h => by omega) (fun h => by cases h) (by rw [flat_lend, lendL_map, List.length_map]; exact hl) hcell (fun j c u hc hu => ?_)
    rw [flat_lend, lendL_map, List.getElem?_map, Option.map_eq_some_iff] at hc
    obtain ⟨c0, hc0, rfl⟩ := hc
    exact ih j c0 u hc0 hu (hp.imp _root_.id fun h => allOld_flat h.2 c0 (List.mem_of_getElem? hc0))
theorem CRs.lend_ {w : World} {B : Nat} {ok ok' : Nat → Prop} {cs : List DV} {xs : List Value} (h : CRs w B ok cs xs) (any : Bool) (hd : any = true ∨ ∀ c ∈ cs, c.allOld = true) (hok : ∀ b, ok b → b < w.heap.size → (any = true ∨ b < B) → ok' b) : CRs w w.heap.size ok' (lendL cs) xs := by
  refine ⟨by rw [lendL_map, List.length_map]; exact h.1, fun j c u hc hu => ?_⟩
  rw [lendL_map, List.getElem?_map, Option.map_eq_some_iff] at hc
  obtain ⟨c0, hc0, rfl⟩ := hc
  exact (h.2 j c0 u hc0 hu).lend_ any (hd.imp _root_.id fun h => h c0 (List.mem_of_getElem? hc0)) hok

theorem adoptP_0 {o : Bool} {p : Nat} (h : adoptP o p = 0) : o = true ∧ p = 0 := by
  unfold adoptP at h
  split at h
  · omega
  · split at h
    · omega
    · split at h
      · assumption
      · omega
theorem adoptP_n {o : Bool} {p : Nat} (h : adoptP o p = 1 ∨ adoptP o p = 3) : p = 1 ∨ p = 3 := by
  unfold adoptP at h
  split at h
  · omega
  · split at h
    · omega
    · split at h <;> omega
theorem adoptP_1 {o : Bool} {p : Nat} (h : adoptP o p = 1) : p = 1 := by
  unfold adoptP at h
  split at h
  · assumption
  · split at h
    · omega
    · split at h <;> omega
theorem newP_iff {p : Nat} (h : newP p = true) : p = 1 ∨ p = 3 := by simpa [newP] using h
theorem CR.adopt_ {w : World} {B B' : Nat} {ok ok' : Nat → Prop} {d : DV} {v : Value} (o : Bool) (h : CR w B ok d v) (hB : B' ≤ B) (any : Bool) (hd : any = true ∨ d.allNew = true) (ho : o = true → ∀ b, ok b → b < B → b < B') (hok : ∀ b, ok b → b < w.heap.size → (any = true ∨ B ≤ b) → ok' b) : CR w B' ok' (d.adopt o) v := by
  induction h with
  | i n => exact .i n
  | y n hn => exact .y n hn
  | b x => exact .b x
  | s l => exact .s l
  | sl0 p A cap hm => exact .sl0 _ A cap hm
  | sl p es ad n cap sz xs hn h0 hc hm hsz hok1 hlt hold hnew hrow hl hcell hrec ih =>
    have hp : any = true ∨ ((p = 1 ∨ p = 3) ∧ allNewL es = true) := by
      rcases hd with h | h
      · exact .inl h
      · simp only [DV.allNew, Bool.and_eq_true] at h; exact .inr ⟨newP_iff h.1, h.2⟩
    refine .sl _ (adoptL o es) ad n cap sz xs (by rw [adoptL_map, List.length_map]; exact hn) h0 hc hm (adopt_wid hsz) (hok _ hok1 hlt ?_) hlt (fun h => ?_) (fun h => ?_) (fun h => hrow (adoptP_1 h)) (by rw [flat_adopt, adoptL_map, List.length_map]; exact hl) hcell (fun j c u hc hu => ?_)
    · rcases hp with h | ⟨h, _⟩
      · exact .inl h
      · exact .inr (hnew h)
    · obtain ⟨h1, h2⟩ := adoptP_0 h
      exact ho h1 _ hok1 (hold h2)
    · exact Nat.le_trans hB (hnew (adoptP_n h))
    · rw [flat_adopt, adoptL_map, List.getElem?_map, Option.map_eq_some_iff] at hc
      obtain ⟨c0, hc0, rfl⟩ := hc
      refine ih j c0 u hc0 hu ?_
      rcases hp with h | ⟨_, h⟩
      · exact .inl h
      · exact .inr (allNew_flat h c0 (List.mem_of_getElem? hc0))
theorem CRs.adopt_ {w : World} {B B' : Nat} {ok ok' : Nat → Prop} {cs : List DV} {xs : List Value} (o : Bool) (h : CRs w B ok cs xs) (hB : B' ≤ B) (any : Bool) (hd : any = true ∨ ∀ c ∈ cs, c.allNew = true) (ho : o = true → ∀ b, ok b → b < B → b < B') (hok : ∀ b, ok b → b < w.heap.size → (any = true ∨ B ≤ b) → ok' b) : CRs w B' ok' (adoptL o cs) xs := by
  refine ⟨by rw [adoptL_map, List.length_map]; exact h.1, fun j c u hc hu => ?_⟩
  rw [adoptL_map, List.getElem?_map, Option.map_eq_some_iff] at hc
  obtain ⟨c0, hc0, rfl⟩ := hc
  exact (h.2 j c0 u hc0 hu).adopt_ o hB any (by
    rcases hd with h | h
    · exact .inl h
    · exact .inr (h c0 (List.mem_of_getElem? hc0))) ho hok

/-! ### What a call begins with -/
theorem lendArgs_get {ob : OB} : ∀ {ds as : List DV}, lendArgs ob ds = some as → as.length = ds.length ∧ ∀ (j : Nat) (d : DV), ds[j]? = some d → ∃ e, as[j]? = some e ∧ lendArg ob d = some e
  | [], as, h => by simp only [lendArgs, Option.some.injEq] at h; subst h; exact ⟨rfl, by simp⟩
  | d :: ds, as, h => by
    simp only [lendArgs] at h
    split at h
    · rename_i e he
      split at h
      · rename_i es hes
        injection h with h
        subst h
        obtain ⟨h1, h2⟩ := lendArgs_get hes
        refine ⟨by simp [h1], fun j x hx => ?_⟩
        cases j with
        | zero => simp only [List.getElem?_cons_zero, Option.some.injEq] at hx; subst hx; exact ⟨e, rfl, he⟩
        | succ j => simp only [List.getElem?_cons_succ] at hx ⊢; exact h2 j x hx
      · cases h
    · cases h

def argSlot (j : Nat) : DV → DV
  | .ref c => .oad (mkId j c.cells.length 7) 1 0 0
  | d => d

theorem enter_sl : ∀ (as : List DV) (j : Nat) (S : LS) (t : Nat), look (enter j as S).sl t = if j ≤ t then (match as[t - j]? with | some d => argSlot t d | none => look S.sl t) else look S.sl t
  | [], j, S, t => by simp [enter]
  | d :: as, j, S, t => by
    have key : ∀ (S' : LS) (x : DV), S'.sl = put S.sl j x → x = argSlot j d → look (enter (j + 1) as S').sl t = if j ≤ t then (match (d :: as)[t - j]? with | some d => argSlot t d | none => look S.sl t) else look S.sl t := by
      intro S' x hS hx
      rw [enter_sl as (j + 1) S' t, hS, look_put]
      by_cases h1 : j + 1 ≤ t
      · have hne : t ≠ j := by omega
        simp only [if_neg hne]
        rw [if_pos h1, if_pos (show j ≤ t by omega), show t - j = (t - (j + 1)) + 1 by omega, List.getElem?_cons_succ]
      · rw [if_neg h1]
        by_cases h2 : t = j
        · subst h2; simp [hx]
        · rw [if_neg h2, if_neg (show ¬ j ≤ t by omega)]
    cases d <;> exact key _ _ rfl rfl

theorem mkId_inj {t u sz sz' : Nat} (h1 : sz < 64) (h2 : sz' < 64) (h : mkId t sz 7 = mkId u sz' 7) : t = u ∧ sz = sz' := by unfold mkId at h; omega

theorem enter_ob : ∀ (as : List DV) (j : Nat) (S : LS) (k : Nat), (∀ c, DV.ref c ∈ as → c.cells.length < 64) →
    lookO (enter j as S).ob k = if j ≤ k / 512 then (match as[k / 512 - j]? with | some (.ref c) => if k = mkId (k / 512) c.cells.length 7 then some [c] else lookO S.ob k | _ => lookO S.ob k) else lookO S.ob k
  | [], j, S, k, _ => by simp [enter]
  | d :: as, j, S, k, hw => by
    have hw' : ∀ c, DV.ref c ∈ as → c.cells.length < 64 := fun c hc => hw c (List.mem_cons_of_mem _ hc)
    have plain : ∀ (S' : LS), S'.ob = S.ob → (∀ c, d ≠ .ref c) → lookO (enter (j + 1) as S').ob k = if j ≤ k / 512 then (match (d :: as)[k / 512 - j]? with | some (.ref c) => if k = mkId (k / 512) c.cells.length 7 then some [c] else lookO S.ob k | _ => lookO S.ob k) else lookO S.ob k := by
      intro S' hS hd
      rw [enter_ob as (j + 1) S' k hw', hS]
      by_cases h1 : j + 1 ≤ k / 512
      · rw [if_pos h1, if_pos (by omega), show k / 512 - j = (k / 512 - (j + 1)) + 1 by omega, List.getElem?_cons_succ]
      · rw [if_neg h1]
        by_cases h2 : k / 512 = j
        · rw [if_pos (by omega), show k / 512 - j = 0 by omega, List.getElem?_cons_zero]
          cases d with
          | ref c => exact absurd rfl (hd c)
          | _ => rfl
        · rw [if_neg (by omega)]
    cases d with
    | ref c =>
      have hc : c.cells.length < 64 := hw c (List.mem_cons_self ..)
      show lookO (enter (j + 1) as { sl := put S.sl j (.oad (mkId j c.cells.length 7) 1 0 0), ob := putO S.ob (mkId j c.cells.length 7) [c] }).ob k = _
      rw [enter_ob as (j + 1) _ k hw']
      simp only [lookO_put]
      have hid : mkId j c.cells.length 7 / 512 = j := by unfold mkId; omega
      by_cases h1 : j + 1 ≤ k / 512
      · have hne : k ≠ mkId j c.cells.length 7 := fun e => by rw [e, hid] at h1; omega
        simp only [if_neg hne]
        rw [if_pos h1, if_pos (show j ≤ k / 512 by omega), show k / 512 - j = (k / 512 - (j + 1)) + 1 by omega, List.getElem?_cons_succ]
      · rw [if_neg h1]
        by_cases h2 : k / 512 = j
        · rw [if_pos (show j ≤ k / 512 by omega), show k / 512 - j = 0 by omega, List.getElem?_cons_zero]
          show _ = if k = mkId (k / 512) c.cells.length 7 then some [c] else lookO S.ob k
          rw [h2]
        · have hne : k ≠ mkId j c.cells.length 7 := fun e => by rw [e, hid] at h2; omega
          rw [if_neg hne, if_neg (show ¬ j ≤ k / 512 by omega)]
    | _ => exact plain _ rfl (fun c h => by cases h)
end Go.Lg
