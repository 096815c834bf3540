/- Part 21 of a logical reading of translated Go: what a frame holds is said by lists, and each operation is proved against the model. No conditions. -/
import Derived.Test.YtadlmpjlkfbnfacLg20
namespace Go.Lg
open Go.RowKit
set_option linter.unusedVariables false

/-! ### What a call hands back -/
theorem putRefs_spec {old : Bool} {ob ob0 ob2 : OB} {os : List Nat} : ∀ {ds as cs : List DV} {obA : OB} {i : Nat}, lendArgs ob0 ds = some as → outs ob2 i as = some cs → putRefs old ob ds cs = some obA → apartKs (refKs ds) os = true →
    ∀ k, (k ∉ refKs ds → lookO obA k = lookO ob k) ∧ (∀ j n a o, ds[j]? = some (.oad k n a o) → ∃ c0 c1, as[j]? = some (.ref c0) ∧ lookO ob2 (mkId (i + j) c0.cells.length 7) = some [c1] ∧ c1 ∈ cs ∧ lookO obA k = some [c1.adopt old])
  | [], as, cs, obA, i, has, ho, hp, hap, k => by
    simp only [lendArgs, Option.some.injEq] at has
    subst has
    simp only [outs, Option.some.injEq] at ho
    subst ho
    simp only [putRefs, Option.some.injEq] at hp
    subst hp
    exact ⟨fun _ => rfl, fun j n a o h => by simp at h⟩
  | d :: ds, as, cs, obA, i, has, ho, hp, hap, k => by
    simp only [lendArgs] at has
    split at has
    · rename_i e he
      split at has
      · rename_i es hes
        injection has with has
        subst has
        by_cases hd : ∃ k n a o, d = .oad k n a o
        · obtain ⟨k0, n0, a0, o0, rfl⟩ := hd
          obtain ⟨_, _, _, c0, _, rfl⟩ := (lendArg_ref he).2 k0 n0 a0 o0 rfl
          simp only [outs] at ho
          split at ho
          · rename_i c1 hc1
            split at ho
            · rename_i cs' hcs'
              injection ho with ho
              subst ho
              simp only [putRefs] at hp
              have hap' := hap
              simp only [refKs, apartKs, Bool.and_eq_true, Bool.not_eq_true', List.contains_eq_mem, decide_eq_false_iff_not] at hap
              obtain ⟨h1, h2⟩ := putRefs_spec (i := i + 1) hes hcs' hp hap.2 k
              refine ⟨fun hk => ?_, fun j n a o hj => ?_⟩
              · simp only [refKs, List.mem_cons, not_or] at hk
                rw [h1 hk.2, lookO_put, if_neg hk.1]
              · cases j with
                | zero =>
                  simp only [List.getElem?_cons_zero, Option.some.injEq] at hj
                  injection hj with hj _ _ _
                  subst hj
                  refine ⟨_, c1, by rw [List.getElem?_cons_zero], hc1, by simp, ?_⟩
                  rw [h1 hap.1.1, lookO_put, if_pos rfl]
                | succ j =>
                  simp only [List.getElem?_cons_succ] at hj ⊢
                  obtain ⟨q0, q1, h3, h4, h5, h6⟩ := h2 j n a o hj
                  exact ⟨q0, q1, h3, by rw [← h4]; congr 2; omega, by simp [h5], h6⟩
            · cases ho
          · cases ho
        · have he' : ∀ c1, e ≠ .ref c1 := fun c1 hc1 => by
            obtain ⟨k0, n, c0, hd', _⟩ := (lendArg_ref he).1 c1 hc1
            exact hd ⟨_, _, _, _, hd'⟩
          have ho' : outs ob2 (i + 1) es = some cs := by
            cases e <;> first | exact ho | exact absurd rfl (he' _)
          have hp' : putRefs old ob ds cs = some obA := by
            cases d <;> first | exact hp | exact absurd ⟨_, _, _, _, rfl⟩ hd | (cases cs <;> exact hp)
          have hr : refKs (d :: ds) = refKs ds := by
            cases d <;> first | rfl | exact absurd ⟨_, _, _, _, rfl⟩ hd
          rw [hr] at hap
          obtain ⟨h1, h2⟩ := putRefs_spec (i := i + 1) hes ho' hp' hap k
          refine ⟨fun hk => h1 (by rw [← hr]; exact hk), fun j n a o hj => ?_⟩
          cases j with
          | zero =>
            simp only [List.getElem?_cons_zero, Option.some.injEq] at hj
            exact absurd ⟨_, _, _, _, hj⟩ hd
          | succ j =>
            simp only [List.getElem?_cons_succ] at hj ⊢
            obtain ⟨q0, q1, h3, h4, h5, h6⟩ := h2 j n a o hj
            exact ⟨q0, q1, h3, by rw [← h4]; congr 2; omega, h5, h6⟩
      · cases has
    · cases has

theorem refKs_ex {k : Nat} : ∀ {ds : List DV}, k ∈ refKs ds → ∃ (j n a o : Nat), ds[j]? = some (DV.oad k n a o)
  | [], hk => by cases hk
  | d :: ds, hk => by
    by_cases hd : ∃ n a o, d = .oad k n a o
    · obtain ⟨n, a, o, rfl⟩ := hd
      exact ⟨0, n, a, o, rfl⟩
    · have : k ∈ refKs ds := by
        cases d with
        | oad k0 n a o =>
          simp only [refKs, List.mem_cons] at hk
          rcases hk with rfl | hk
          · exact absurd ⟨_, _, _, rfl⟩ hd
          · exact hk
        | _ => exact hk
      obtain ⟨j, n, a, o, h⟩ := refKs_ex this
      exact ⟨j + 1, n, a, o, h⟩

def nw1 : DV → Bool
  | .fr _ es => allNewL es
  | .ref c => c.allNew
  | d => d.allNew
theorem newRes_go : ∀ ds : List DV, newRes.go ds = ds.all nw1
  | [] => rfl
  | d :: ds => by
    have ih := newRes_go ds
    cases d <;> simp [newRes.go, nw1, ih]
theorem newOuts_mem : ∀ {cs : List DV}, newOuts cs = true → ∀ x ∈ cs, x.allNew = true
  | [], _, x, hx => by cases hx
  | d :: ds, h, x, hx => by
    simp only [newOuts, Bool.and_eq_true] at h
    rcases List.mem_cons.1 hx with rfl | hx
    · exact h.1
    · exact newOuts_mem h.2 x hx

theorem VR.same {w : World} {B : Nat} {ok : Nat → Prop} {O O' : OM} {d : DV} {v : Value} (h : VR w B ok O d v) (hs : ∀ k, d.mentions k = true → O' k = O k) : VR w B ok O' d v := by
  induction h with
  | cr d v h => exact .cr _ _ h
  | st cs vs h => exact .st _ _ h
  | nil => exact .nil
  | np => exact .np
  | und => exact .und
  | dead v => exact .dead v
  | adr d ad xs hok hlt hcell h => exact .adr d ad xs hok hlt hcell h
  | own k n lo hi p v hO hn h1 h2 hv => exact .own k n lo hi p v (by rw [hs k (by simp [DV.mentions])]; exact hO) hn h1 h2 hv
  | ownS k n lo hi A cap hO => exact .ownS k n lo hi A cap (by rw [hs k (by simp [DV.mentions])]; exact hO)
  | oad k n a o p g hO hn hg => exact .oad k n a o p g (by rw [hs k (by simp [DV.mentions])]; exact hO) hn hg
  | oadS k n a o ad hO => exact .oadS k n a o ad (by rw [hs k (by simp [DV.mentions])]; exact hO)
  | tup ds vs hl hnt h ih =>
    refine .tup ds vs hl hnt (fun j d u hd hu => ih j d u hd hu (fun k hk => hs k ?_))
    have hm : d ∈ ds := List.mem_of_getElem? hd
    have ht := hnt d hm
    simp only [DV.mentions, List.any_eq_true]
    refine ⟨d, hm, ?_⟩
    cases d with
    | tup l => exact absurd rfl (ht l)
    | own => exact hk
    | oad => exact hk
    | _ => simp [DV.mentions] at hk
theorem CR.okm {w : World} {B : Nat} {ok ok' : Nat → Prop} {d : DV} {v : Value} (h : CR w B ok d v) (hok : ∀ b, ok b → b < w.heap.size → ok' b) : CR w B ok' d v :=
  h.keep (fun _ _ _ => rfl) (Nat.le_refl _) hok rfl
theorem CRs.okm {w : World} {B : Nat} {ok ok' : Nat → Prop} {d : List DV} {v : List Value} (h : CRs w B ok d v) (hok : ∀ b, ok b → b < w.heap.size → ok' b) : CRs w B ok' d v :=
  ⟨h.1, fun j c u h1 h2 => (h.2 j c u h1 h2).okm hok⟩
theorem VR.okm {w : World} {B : Nat} {ok ok' : Nat → Prop} {O : OM} {d : DV} {v : Value} (h : VR w B ok O d v) (hok : ∀ b, ok b → b < w.heap.size → ok' b) : VR w B ok' O d v := by
  induction h with
  | cr d v h => exact .cr _ _ (h.okm hok)
  | st cs vs h => exact .st _ _ (h.okm hok)
  | nil => exact .nil
  | np => exact .np
  | und => exact .und
  | dead v => exact .dead v
  | adr d ad xs hok1 hlt hcell h => exact .adr d ad xs (hok _ hok1 hlt) hlt hcell (h.okm hok)
  | own k n lo hi p v hO hn h1 h2 hv => exact .own k n lo hi p v hO hn h1 h2 hv
  | ownS k n lo hi A cap hO => exact .ownS k n lo hi A cap hO
  | oad k n a o p g hO hn hg => exact .oad k n a o p g hO hn hg
  | oadS k n a o ad hO => exact .oadS k n a o ad hO
  | tup ds vs hl hnt h ih => exact .tup ds vs hl hnt ih
theorem OR.okm {w : World} {B : Nat} {ok ok' : Nat → Prop} {p : PO} {es : List DV} (h : OR w B ok p es) (hok : ∀ b, ok b → b < w.heap.size → ok' b) : OR w B ok' p es := by
  obtain ⟨xs, hr, hc⟩ := h.row
  exact ⟨h.len, h.pos, h.wid, xs, hr, hc.okm hok⟩
theorem OR.adopt_ (o : Bool) {w : World} {B B' : Nat} {ok ok' : Nat → Prop} {p : PO} {es : List DV} (h : OR w B ok p es) (hB : B' ≤ B) (any : Bool) (hd : any = true ∨ allNewL es = true) (ho : o = true → ∀ b, ok b → b < B → b < B') (hok : ∀ b, ok b → b < w.heap.size → (any = true ∨ B ≤ b) → ok' b) : OR w B' ok' p (adoptL o es) := by
  obtain ⟨xs, hr, hc⟩ := h.row
  refine ⟨by rw [adoptL_map, List.length_map]; exact h.len, h.pos, adopt_wid h.wid, xs, hr, ?_⟩
  rw [flat_adopt]
  exact hc.adopt_ o hB any (hd.imp id fun h => allNew_flat h) ho hok

/-- What a caller may reach after a call: what it could before, but nothing of the objects that the callee made and gave back. -/
def ok1 (c : Cx) (O O1 : OM) (b : Nat) : Prop := okb c.ok0 c.B O b ∧ ∀ k p, O1 k = some p → k % 8 ≠ 7 → p.hv.ownBlock ≠ some b

/-- The caller's memory while it takes in what a callee gave back. -/
structure JR (c : Cx) (w w' : World) (O O1 : OM) (F : Nat → Prop) (obk : OB) (Oc : OM) (oc : OB) : Prop where
  dom : ∀ k, Oc k = none ↔ lookO oc k = none
  obj : ∀ k p es, Oc k = some p → lookO oc k = some es → OR w' c.B (ok1 c O O1) p es
  src : ∀ k p, Oc k = some p → O k = some p ∨ (k % 8 ≠ 7 ∧ ∃ k1, O1 k1 = some p ∧ lookO obk k1 = none ∧ k1 % 8 ≠ 7)
  inj : ∀ k k' p p' g, Oc k = some p → Oc k' = some p' → p.hv.ownBlock = some g → p'.hv.ownBlock = some g → k = k'
  sz : ∀ k p, Oc k = some p → p.sz = szId k
  new : ∀ k p, ¬ F k → Oc k = some p → O k = some p

section
variable {old : Bool} {P : Program} {c : Cx} {w w' : World} {O O1 : OM} {ob obc : OB} {ds as : List DV} {F : Nat → Prop}

/-- The objects of a callee that came by their addresses are the caller's, the others are new. -/
theorem ct_new (hm' : MR ⟨w, ctOk old c O ds, ctRefs O ds⟩ O1 obc w') {k : Nat} {p : PO} {g : Nat} (hO : O1 k = some p) (h7 : k % 8 ≠ 7) (hg : p.hv.ownBlock = some g) : w.heap.size ≤ g := by
  rcases hm'.base k p g hO hg with h | ⟨h, _⟩
  · exact h
  · exact absurd h h7

theorem ct_back (hm : MR c O ob w) (hm' : MR ⟨w, ctOk old c O ds, ctRefs O ds⟩ O1 obc w') (any : Bool) (ha : any = true → lendsOwn ds = false) : ∀ b, okb (ctOk old c O ds) w.heap.size O1 b → b < w'.heap.size → (any = true ∨ w.heap.size ≤ b) → ok1 c O O1 b := by
  intro b hb hlt hor
  refine ⟨?_, fun k p hO _ => hb.2 k p hO⟩
  by_cases hbw : b < w.heap.size
  · rcases hor with h | h
    · exact (hb.1 hbw).1 (ha h)
    · omega
  · refine ⟨fun h => ?_, fun k p hO hg => ?_⟩
    · have := hm.size; have : c.B = c.w0.heap.size := rfl; omega
    · have := hm.lt hO hg; omega

theorem ct_low (hm' : MR ⟨w, ctOk old c O ds, ctRefs O ds⟩ O1 obc w') : old = true → ∀ b, okb (ctOk old c O ds) w.heap.size O1 b → b < w.heap.size → b < c.B := fun h b hb hlt => (hb.1 hlt).2 h
theorem ct_old (hm : MR c O ob w) (hm' : MR ⟨w, ctOk old c O ds, ctRefs O ds⟩ O1 obc w') : ∀ b, okb c.ok0 c.B O b → b < w.heap.size → ok1 c O O1 b := by
  intro b hb hlt
  refine ⟨hb, fun k p hO h7 hg => ?_⟩
  have := ct_new hm' hO h7 hg
  omega

theorem ct_heap (hm : MR c O ob w) (hm' : MR ⟨w, ctOk old c O ds, ctRefs O ds⟩ O1 obc w') : ∀ b, b < w.heap.size → (∀ k p, k ∈ refKs ds → O k = some p → p.hv.ownBlock ≠ some b) → w'.heap[b]? = w.heap[b]? := by
  intro b hlt hb
  refine hm'.frame b hlt (fun r hr => ?_)
  obtain ⟨j, k0, n, a, o, hd, hO, _⟩ := ctRefs_mem hr
  exact hb k0 r.2 (refKs_mem hd) hO

/-- After a call, before its results are taken in. -/
theorem jr_start (hm : MR c O ob w) (hm' : MR ⟨w, ctOk old c O ds, ctRefs O ds⟩ O1 obc w') (has : lendArgs ob ds = some as) (hap : apartKs (refKs ds) (ownKs ds) = true) {cs : List DV} {ob2 obA : OB} (ho : outs ob2 0 as = some cs)
    (hsub : ∀ k es, lookO ob2 k = some es → lookO obc k = some es) (hp : putRefs old ob ds cs = some obA) (any : Bool) (ha : any = true → lendsOwn ds = false) (hn : any = true ∨ newOuts cs = true) : JR c w w' O O1 F obc O obA := by
  have hspec := putRefs_spec (ob := ob) (i := 0) has ho hp hap
  have hex : ∀ (k : Nat), k ∈ refKs ds → ∃ (j n a o : Nat), ds[j]? = some (DV.oad k n a o) := fun k hk => refKs_ex hk
  have hold := ct_old hm hm'
  have hsz : w.heap.size ≤ w'.heap.size := hm'.size
  refine ⟨fun k => ?_, fun k p es hk he => ?_, fun k p hk => .inl hk, hm.inj, hm.sz, fun k p _ hk => hk⟩
  · by_cases hkr : k ∈ refKs ds
    · obtain ⟨j, n, a, o, hj⟩ := hex k hkr
      obtain ⟨c0, c1, h1, h2, h3, h4⟩ := (hspec k).2 j n a o hj
      obtain ⟨hlen, hget⟩ := lendArgs_get has
      obtain ⟨e, he, hle⟩ := hget j _ hj
      obtain ⟨p, c0', hO, _⟩ := lent_ref hm hle
      rw [h4, hO]; simp
    · rw [(hspec k).1 hkr]; exact hm.dom k
  · by_cases hkr : k ∈ refKs ds
    · obtain ⟨j, n, a, o, hj⟩ := hex k hkr
      obtain ⟨c0, c1, h1, h2, h3, h4⟩ := (hspec k).2 j n a o hj
      obtain ⟨hlen, hget⟩ := lendArgs_get has
      obtain ⟨e, he', hle⟩ := hget j _ hj
      obtain ⟨p', c0', hO, hlk, hec, hw', hlt, hor, _⟩ := lent_ref hm hle
      rw [hk] at hO
      injection hO with hO
      subst hO
      rw [h4] at he
      injection he with he
      subst he
      rw [h1] at he'
      injection he' with he'
      rw [hec] at he'
      injection he' with he'
      rw [he', hw', Nat.zero_add] at h2
      have h5 := hsub _ _ h2
      obtain ⟨p1, hO1, hor1⟩ := hm'.get h5
      have hmem := ctRefs_of hj hk
      have e : p1 = p := hm'.refs _ hmem p1 hO1
      rw [e] at hor1
      have := hor1.adopt_ old (B' := c.B) (ok' := ok1 c O O1) hm.size any (hn.imp id fun h => by simp [allNewL, newOuts_mem h c1 h3]) (ct_low hm') (ct_back hm hm' any ha)
      simpa [adoptL] using this
    · rw [(hspec k).1 hkr] at he
      have hor := hm.obj k p es hk he
      obtain ⟨xs, hr, hc⟩ := hor.row
      refine ⟨hor.len, hor.pos, hor.wid, xs, ⟨hr.1, ?_⟩, ⟨hc.1, fun j d u h1 h2 => (hc.2 j d u h1 h2).keep (fun b hb hlt => ?_) hsz hold rfl⟩⟩
      · rcases hr.2 with h0 | ⟨g, cap, cur, hv, h1, h2, h3⟩
        · exact .inl h0
        · refine .inr ⟨g, cap, cur, hv, h1, ?_, h3⟩
          have hg : p.hv.ownBlock = some g := by rw [hv]; rfl
          rw [ct_heap hm hm' g (hm.lt hk hg) (fun k' p' hk' hO' hg' => ?_)]
          · exact h2
          · exact hkr (by rw [hm.inj k k' p p' g hk hO' hg hg']; exact hk')
      · exact ct_heap hm hm' b hlt (fun k' p' _ hO' => hb.2 k' p' hO')

/-- In the end it is a memory again. -/
theorem jr_end (hm : MR c O ob w) (hm' : MR ⟨w, ctOk old c O ds, ctRefs O ds⟩ O1 obc w') {obk oc : OB} {Oc : OM} (h : JR c w w' O O1 F obk Oc oc) (h7 : ∀ r ∈ c.refs, r.1 % 8 = 7) :
    MR c Oc oc w' ∧ Tr c.ok0 c.B F w O w' Oc ∧ ∀ b, ok1 c O O1 b → okb c.ok0 c.B Oc b := by
  have hok : ∀ b, ok1 c O O1 b → okb c.ok0 c.B Oc b := fun b hb => ⟨hb.1.1, fun k p hk => by
    rcases h.src k p hk with h1 | ⟨_, k1, h1, _, h2⟩
    · exact hb.1.2 k p h1
    · exact hb.2 k1 p h1 h2⟩
  have hsz : w.heap.size ≤ w'.heap.size := hm'.size
  refine ⟨⟨hm'.os.trans hm.os, hm'.tape.trans hm.tape, hm'.output.trans hm.output, Nat.le_trans hm.size hsz, fun b hb hr => ?_, h.dom, fun k p es hk he => (h.obj k p es hk he).okm (fun b hb _ => hok b hb), h.inj, fun k p g hk hg => ?_, h.sz, fun r hr p hp => ?_⟩, ⟨hsz, fun b hb hlt => ct_heap hm hm' b hlt (fun k' p' _ hO' => hb.2 k' p' hO'), fun b hb hlt => hok b (ct_old hm hm' b hb hlt), fun k p' hN hk => .inl (h.new k p' hN hk)⟩, hok⟩
  · have hbw : b < w.heap.size := Nat.lt_of_lt_of_le hb hm.size
    rw [ct_heap hm hm' b hbw (fun k' p' _ hO' hg => ?_)]
    · exact hm.frame b hb hr
    · rcases hm.base k' p' b hO' hg with h1 | ⟨_, r, h1, h2⟩
      · omega
      · exact hr r h1 h2
  · rcases h.src k p hk with h1 | ⟨_, k1, h1, _, h2⟩
    · exact hm.base k p g h1 hg
    · exact .inl (Nat.le_trans hm.size (ct_new hm' h1 h2 hg))
  · rcases h.src r.1 p hp with h1 | ⟨h1, _⟩
    · exact hm.refs r hr p h1
    · exact absurd (h7 r hr) h1
end
end Go.Lg
