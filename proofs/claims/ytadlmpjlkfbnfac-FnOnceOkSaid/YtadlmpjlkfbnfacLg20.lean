/- Part 20 of a logical reading of translated Go: what a frame holds is said by lists, and each operation is proved against the model. No conditions. -/
import Derived.Test.YtadlmpjlkfbnfacLg19
namespace Go.Lg
open Go.RowKit
set_option linter.unusedVariables false

/-! ### The frame of a callee -/
def ctOk (old : Bool) (c : Cx) (O : OM) (ds : List DV) (b : Nat) : Prop := (lendsOwn ds = false → okb c.ok0 c.B O b) ∧ (old = true → b < c.B)
theorem oldArgs_get {ob : OB} : ∀ {ds : List DV} (_ : oldArgs ob ds = true) {j : Nat} {d : DV}, ds[j]? = some d → oldArg ob d = true
  | [], _, j, d, h => by simp at h
  | x :: ds, h, j, d, hd => by
    simp only [oldArgs, Bool.and_eq_true] at h
    cases j with
    | zero => simp only [List.getElem?_cons_zero, Option.some.injEq] at hd; subst hd; exact h.1
    | succ j => simp only [List.getElem?_cons_succ] at hd; exact oldArgs_get h.2 hd
def ctO (O : OM) (ds : List DV) : OM := fun k => match ds[k / 512]? with
  | some (.oad k0 _ _ _) => match O k0 with
    | some p => if k = mkId (k / 512) p.sz 7 then some p else none
    | none => none
  | _ => none
def ctRef (O : OM) (ds : List DV) (j : Nat) : Option (Nat × PO) := match ds[j]? with
  | some (.oad k0 _ _ _) => (O k0).map fun p => (mkId j p.sz 7, p)
  | _ => none
def ctRefs (O : OM) (ds : List DV) : List (Nat × PO) := (List.range ds.length).filterMap (ctRef O ds)

theorem ctO_some {O : OM} {ds : List DV} {k : Nat} {p : PO} (h : ctO O ds k = some p) : ∃ k0 n a o, ds[k / 512]? = some (.oad k0 n a o) ∧ O k0 = some p ∧ k = mkId (k / 512) p.sz 7 := by
  unfold ctO at h
  split at h
  · rename_i k0 n a o hd
    split at h
    · rename_i q hq
      split at h
      · rename_i hk
        injection h with h
        subst h
        exact ⟨k0, n, a, o, hd, hq, hk⟩
      · cases h
    · cases h
  · cases h
theorem ctRefs_mem {O : OM} {ds : List DV} {r : Nat × PO} (h : r ∈ ctRefs O ds) : ∃ j k0 n a o, ds[j]? = some (.oad k0 n a o) ∧ O k0 = some r.2 ∧ r.1 = mkId j r.2.sz 7 := by
  unfold ctRefs at h
  rw [List.mem_filterMap] at h
  obtain ⟨j, _, hj⟩ := h
  unfold ctRef at hj
  split at hj
  · rename_i k0 n a o hd
    rw [Option.map_eq_some_iff] at hj
    obtain ⟨p, hp, rfl⟩ := hj
    exact ⟨j, k0, n, a, o, hd, hp, rfl⟩
  · cases hj
theorem ctRefs_of {O : OM} {ds : List DV} {j k0 n a o : Nat} {p : PO} (hd : ds[j]? = some (.oad k0 n a o)) (hp : O k0 = some p) : (mkId j p.sz 7, p) ∈ ctRefs O ds := by
  unfold ctRefs
  rw [List.mem_filterMap]
  refine ⟨j, ?_, ?_⟩
  · rw [List.mem_range]
    exact (List.getElem?_eq_some_iff.1 hd).1
  · unfold ctRef
    simp [hd, hp]

/-! ### Apart -/
theorem refKs_mem {ds : List DV} {j k n a o : Nat} (h : ds[j]? = some (.oad k n a o)) : k ∈ refKs ds := by
  induction ds generalizing j with
  | nil => simp at h
  | cons d ds ih =>
    cases j with
    | zero => simp only [List.getElem?_cons_zero, Option.some.injEq] at h; subst h; simp [refKs]
    | succ j =>
      simp only [List.getElem?_cons_succ] at h
      have := ih h
      cases d <;> simp_all [refKs]
theorem ownKs_mem {ds : List DV} {j k n a o : Nat} (h : ds[j]? = some (.own k n a o)) : k ∈ ownKs ds := by
  induction ds generalizing j with
  | nil => simp at h
  | cons d ds ih =>
    cases j with
    | zero => simp only [List.getElem?_cons_zero, Option.some.injEq] at h; subst h; simp [ownKs]
    | succ j =>
      simp only [List.getElem?_cons_succ] at h
      have := ih h
      cases d <;> simp_all [ownKs]
theorem lendsOwn_of {ds : List DV} {j k n a o : Nat} (h : ds[j]? = some (.own k n a o)) : lendsOwn ds = true := by
  induction ds generalizing j with
  | nil => simp at h
  | cons d ds ih =>
    cases j with
    | zero => simp only [List.getElem?_cons_zero, Option.some.injEq] at h; subst h; rfl
    | succ j =>
      simp only [List.getElem?_cons_succ] at h
      have := ih h
      cases d <;> simp_all [lendsOwn]
theorem apartKs_own {ks os : List Nat} (h : apartKs ks os = true) {k : Nat} (hk : k ∈ ks) : k ∉ os := by
  induction ks with
  | nil => cases hk
  | cons a ks ih =>
    simp only [apartKs, Bool.and_eq_true, Bool.not_eq_true', List.contains_eq_mem, decide_eq_false_iff_not] at h
    rcases List.mem_cons.1 hk with rfl | hk
    · exact h.1.2
    · exact ih h.2 hk
theorem apart_refs {ds : List DV} {os : List Nat} (h : apartKs (refKs ds) os = true) {i j k n a o n' a' o' : Nat} (hi : ds[i]? = some (.oad k n a o)) (hj : ds[j]? = some (.oad k n' a' o')) : i = j := by
  induction ds generalizing i j with
  | nil => simp at hi
  | cons d ds ih =>
    have tail : apartKs (refKs ds) os = true := by
      cases d <;> simp_all [refKs, apartKs]
    cases i with
    | zero =>
      simp only [List.getElem?_cons_zero, Option.some.injEq] at hi
      subst hi
      cases j with
      | zero => rfl
      | succ j =>
        simp only [List.getElem?_cons_succ] at hj
        simp only [refKs, apartKs, Bool.and_eq_true, Bool.not_eq_true', List.contains_eq_mem, decide_eq_false_iff_not] at h
        exact absurd (refKs_mem hj) h.1.1
    | succ i =>
      cases j with
      | zero =>
        simp only [List.getElem?_cons_zero, Option.some.injEq] at hj
        subst hj
        simp only [List.getElem?_cons_succ] at hi
        simp only [refKs, apartKs, Bool.and_eq_true, Bool.not_eq_true', List.contains_eq_mem, decide_eq_false_iff_not] at h
        exact absurd (refKs_mem hi) h.1.1
      | succ j =>
        simp only [List.getElem?_cons_succ] at hi hj
        rw [ih tail hi hj]

theorem lendArg_ref {ob : OB} {d e : DV} (h : lendArg ob d = some e) : (∀ c, e = .ref c → ∃ k n c0, d = .oad k n 0 0 ∧ n = 1 ∧ lookO ob k = some [c0] ∧ c = c0.lend) ∧ (∀ k n a o, d = .oad k n a o → a = 0 ∧ o = 0 ∧ n = 1 ∧ ∃ c0, lookO ob k = some [c0] ∧ e = .ref c0.lend) := by
  unfold lendArg at h
  split at h
  · rw [Option.map_eq_some_iff] at h
    obtain ⟨es, _, rfl⟩ := h
    exact ⟨fun c hc => (by cases hc), fun k n a o hd => (by cases hd)⟩
  · injection h with h; subst h; exact ⟨fun c hc => (by cases hc), fun k n a o hd => (by cases hd)⟩
  · rename_i k n
    split at h
    · rename_i c0 hl
      split at h
      · rename_i hn
        injection h with h
        subst h
        exact ⟨fun c hc => (by cases hc; exact ⟨k, n, c0, rfl, hn, hl, rfl⟩), fun k' n' a o hd => by cases hd; exact ⟨rfl, rfl, hn, c0, hl, rfl⟩⟩
      · cases h
    · cases h
  · injection h with h; subst h; exact ⟨fun c hc => (by cases hc), fun k n a o hd => (by cases hd)⟩
  · injection h with h; subst h; exact ⟨fun c hc => (by cases hc), fun k n a o hd => (by cases hd)⟩
  · injection h with h; subst h; exact ⟨fun c hc => (by cases hc), fun k n a o hd => (by cases hd)⟩
  · injection h with h; subst h; exact ⟨fun c hc => (by cases hc), fun k n a o hd => (by cases hd)⟩
  · injection h with h; subst h; exact ⟨fun c hc => (by cases hc), fun k n a o hd => (by cases hd)⟩
  · injection h with h; subst h; exact ⟨fun c hc => (by cases hc), fun k n a o hd => (by cases hd)⟩
  · cases h

theorem szId_lt (k : Nat) : szId k < 64 := by unfold szId; omega

section
variable {P : Program} {c : Cx} {w : World} {O : OM} {ob : OB} {ds as : List DV}

/-- The width of what is lent by its address is that of its object. -/
theorem lent_ref (hm : MR c O ob w) {k n a o : Nat} {e : DV} (h : lendArg ob (.oad k n a o) = some e) : ∃ p c0, O k = some p ∧ lookO ob k = some [c0] ∧ e = .ref c0.lend ∧ c0.lend.cells.length = p.sz ∧ p.sz < 64 ∧ OR w c.B (okb c.ok0 c.B O) p [c0] ∧ a = 0 ∧ o = 0 ∧ n = 1 := by
  obtain ⟨ha, ho, hn, c0, hl, he⟩ := (lendArg_ref h).2 k n a o rfl
  obtain ⟨p, hO, hor⟩ := hm.get hl
  refine ⟨p, c0, hO, hl, he, ?_, ?_, hor, ha, ho, hn⟩
  · rw [lend_cells, lendL_map, List.length_map]
    exact hor.wid c0 (List.mem_singleton.2 rfl)
  · rw [hm.sz k p hO]; exact szId_lt k

theorem ct_ok (old : Bool) (hm : MR c O ob w) : ∀ b, okb c.ok0 c.B O b → b < w.heap.size → ((!old) = true ∨ b < c.B) → okb (ctOk old c O ds) w.heap.size (ctO O ds) b := by
  intro b hb _ ho
  refine ⟨fun _ => ⟨fun _ => hb, fun h => ?_⟩, fun k p hk => ?_⟩
  · rcases ho with h1 | h1
    · rw [h] at h1; cases h1
    · exact h1
  obtain ⟨k0, n, a, o, _, hO, _⟩ := ctO_some hk
  exact hb.2 k0 p hO

theorem entry_of (old : Bool) (hold : old = true → oldArgs ob ds = true) (hm : MR c O ob w) {vs : Array Value} (hl : ds.length = vs.size) (hv : ∀ (j : Nat) (d : DV) (v : Value), ds[j]? = some d → vs[j]? = some v → VR w c.B (okb c.ok0 c.B O) O d v)
    (has : lendArgs ob ds = some as) (hap : apartKs (refKs ds) (ownKs ds) = true) : Entry w (ctOk old c O ds) (ctRefs O ds) (ctO O ds) as vs := by
  obtain ⟨hlen, hget⟩ := lendArgs_get has
  have hw : ∀ c1, DV.ref c1 ∈ as → c1.cells.length < 64 := by
    intro c1 hc1
    obtain ⟨j, hj⟩ := List.mem_iff_getElem?.1 hc1
    have hjl : j < ds.length := by rw [← hlen]; exact (List.getElem?_eq_some_iff.1 hj).1
    obtain ⟨e, he, hle⟩ := hget j ds[j] (List.getElem?_eq_getElem hjl)
    rw [hj] at he
    injection he with he
    obtain ⟨k, n, c0, hd, _, _, hc⟩ := (lendArg_ref hle).1 c1 he.symm
    rw [hd] at hle
    obtain ⟨p, c0', _, _, h3, h4, h5, _⟩ := lent_ref hm hle
    rw [← he] at h3
    injection h3 with h3
    rw [h3, h4]; exact h5
  have hok := ct_ok (ds := ds) old hm
  have hob : ∀ k, lookO (enter 0 as ⟨[], []⟩).ob k = match as[k / 512]? with | some (.ref c1) => if k = mkId (k / 512) c1.cells.length 7 then some [c1] else none | _ => none := by
    intro k
    rw [enter_ob as 0 ⟨[], []⟩ k hw]
    simp only [Nat.zero_le, if_true, Nat.sub_zero, lookO]
    cases as[k / 512]? with
    | none => rfl
    | some d => cases d <;> rfl
  have hdom : ∀ k p, ctO O ds k = some p → ∃ k0 c0, O k0 = some p ∧ (∃ n a o, ds[k / 512]? = some (.oad k0 n a o)) ∧ lookO (enter 0 as ⟨[], []⟩).ob k = some [c0.lend] ∧ OR w c.B (okb c.ok0 c.B O) p [c0] ∧ ((!old) = true ∨ allOldL [c0] = true) := by
    intro k p hk
    obtain ⟨k0, n, a, o, hd, hO, hkk⟩ := ctO_some hk
    obtain ⟨e, he, hle⟩ := hget _ _ hd
    obtain ⟨p', c0, hO', hlk0, hec, hsz, _, hor, _⟩ := lent_ref hm hle
    rw [hO] at hO'
    injection hO' with hO'
    subst hO'
    refine ⟨k0, c0, hO, ⟨n, a, o, hd⟩, ?_, hor, ?_⟩
    rotate_left
    · cases old with
      | false => exact .inl rfl
      | true => have := oldArgs_get (hold rfl) hd; simp only [oldArg, hlk0] at this; exact .inr this
    rw [hob, he, hec]
    simp only [hsz, hkk.symm, if_true]
  refine ⟨by rw [hlen, hl], ⟨rfl, rfl, rfl, Nat.le_refl _, fun _ _ _ => rfl, fun k => ⟨fun hk => ?_, fun hk => ?_⟩, fun k p es hk he => ?_, fun k k' p p' g hk hk' hg hg' => ?_, fun k p g hk hg => ?_, fun k p hk => ?_, fun r hr p hp => ?_⟩, fun j => ?_, fun r hr => ?_⟩
  · rw [hob]
    split
    · rename_i c1 hc1
      split
      · rename_i hkk
        exfalso
        have hjl : k / 512 < ds.length := by rw [← hlen]; exact (List.getElem?_eq_some_iff.1 hc1).1
        obtain ⟨e, he, hle⟩ := hget _ ds[k / 512] (List.getElem?_eq_getElem hjl)
        rw [hc1] at he
        injection he with he
        obtain ⟨k0, n, c0, hd, _, _, hc⟩ := (lendArg_ref hle).1 c1 he.symm
        rw [hd] at hle
        obtain ⟨p, c0', hO, _, h3, h4, h5, _⟩ := lent_ref hm hle
        have hd' : ds[k / 512]? = some (.oad k0 n 0 0) := by rw [← hd]; exact List.getElem?_eq_getElem hjl
        rw [← he] at h3
        injection h3 with h3
        unfold ctO at hk
        rw [hd'] at hk
        simp only [hO] at hk
        rw [h3, h4] at hkk
        rw [if_pos hkk] at hk
        cases hk
      · rfl
    · rfl
  · cases hc : ctO O ds k with
    | none => rfl
    | some p => obtain ⟨_, c0, _, _, h, _⟩ := hdom k p hc; rw [hk] at h; cases h
  · obtain ⟨k0, c0, hO, _, hlk, hor, hol⟩ := hdom k p hk
    rw [hlk] at he
    injection he with he
    subst he
    refine ⟨hor.len, hor.pos, fun e he => ?_, ?_⟩
    · simp only [List.mem_singleton] at he
      subst he
      rw [lend_cells, lendL_map, List.length_map]
      exact hor.wid c0 (List.mem_singleton.2 rfl)
    · obtain ⟨xs, hr, hc⟩ := hor.row
      refine ⟨xs, hr, ?_⟩
      have : flat [c0.lend] = lendL (flat [c0]) := by simp [flat, lend_cells]
      rw [this]
      exact hc.lend_ (!old) (hol.imp _root_.id fun h => allOld_flat h) hok
  · obtain ⟨k0, _, hO, ⟨n, a, o, hd⟩, _⟩ := hdom k p hk
    obtain ⟨k1, _, hO', ⟨n', a', o', hd'⟩, _⟩ := hdom k' p' hk'
    have e := hm.inj k0 k1 p p' g hO hO' hg hg'
    subst e
    rw [hO] at hO'
    injection hO' with hO'
    subst hO'
    have e := apart_refs hap hd hd'
    obtain ⟨_, _, _, _, _, _, h1⟩ := ctO_some hk
    obtain ⟨_, _, _, _, _, _, h2⟩ := ctO_some hk'
    rw [h1, h2, e]
  · obtain ⟨k0, n, a, o, hd, hO, hkk⟩ := ctO_some hk
    refine .inr ⟨?_, _, ctRefs_of hd hO, hg⟩
    rw [hkk]; unfold mkId; omega
  · obtain ⟨k0, n, a, o, hd, hO, hkk⟩ := ctO_some hk
    rw [hkk]
    exact (szId_mk _ _ _ (by rw [hm.sz k0 p hO]; exact szId_lt k0) (by omega)).symm
  · obtain ⟨j, k0, n, a, o, hd, hO, hr1⟩ := ctRefs_mem hr
    obtain ⟨k1, n', a', o', hd', hO', hkk⟩ := ctO_some hp
    have hsz1 : r.2.sz < 64 := by rw [hm.sz k0 _ hO]; exact szId_lt k0
    have hj : r.1 / 512 = j := by rw [hr1]; unfold mkId; omega
    rw [hj, hd] at hd'
    injection hd' with hd'
    injection hd' with hd'
    subst hd'
    rw [hO] at hO'
    injection hO' with hO'
    exact hO'.symm
  · rw [enter_sl as 0 ⟨[], []⟩ j]
    simp only [Nat.zero_le, if_true, Nat.sub_zero, look]
    by_cases hj : j < ds.length
    · obtain ⟨e, he, hle⟩ := hget j ds[j] (List.getElem?_eq_getElem hj)
      rw [he]
      simp only
      have hjv : j < vs.size := by omega
      have hvr := hv j ds[j] vs[j] (List.getElem?_eq_getElem hj) (by simp [hjv])
      have hg : vs.getD j undef = vs[j] := by simp [Array.getD_eq_getD_getElem?, hjv]
      rw [hg]
      have hdj : ds[j]? = some ds[j] := List.getElem?_eq_getElem hj
      generalize vs[j] = v at hvr
      generalize ds[j] = d at hle hvr hdj
      clear hg hget
      cases d with
      | own k n lo hi =>
        simp only [lendArg, Option.map_eq_some_iff] at hle
        obtain ⟨es, hes, rfl⟩ := hle
        show VR _ _ _ _ (.sl 0 (lendL es)) v
        have hes' := hes
        simp only [elems] at hes
        cases hlk : lookO ob k with
        | none => rw [hlk] at hes; cases hes
        | some es0 =>
          rw [hlk] at hes
          simp only at hes
          split at hes
          · rename_i hcond
            injection hes with hes
            obtain ⟨hn, hlo, hhi⟩ := hcond
            obtain ⟨p, hO, hp, _, _, hvw, hor⟩ := hvr.own_cur hm hlk hn
            obtain ⟨A, cp, hve, hc1, hc2, hA, _⟩ := hvw
            have hel : es.length = hi - lo := by rw [← hes]; simp; omega
            by_cases h0 : lo < hi
            · obtain ⟨g, hg, rfl⟩ := hA h0
              obtain ⟨xs, hr, hcs⟩ := hor.row
              have hwid : ∀ e ∈ es0.take hi, e.cells.length = p.sz := fun e he => hor.wid e (List.mem_of_mem_take he)
              have hwid2 : ∀ e ∈ es, e.cells.length = p.sz := fun e he => hwid e (by rw [← hes] at he; exact List.mem_of_mem_drop he)
              have hfl : flat es = ((flat es0).take (hi * p.sz)).drop (lo * p.sz) := by rw [← hes, flat_drop hwid, flat_take hor.wid]
              have hcs2 : CRs w c.B (okb c.ok0 c.B O) (flat es) ((xs.take (hi * p.sz)).drop (lo * p.sz)) := by rw [hfl]; exact (hcs.take _).drop _
              have hno : (!old) = true := by
                cases old with
                | false => rfl
                | true => have := oldArgs_get (hold rfl) hdj; simp [oldArg] at this
              have hcs3 := hcs2.lend_ (!old) (.inl hno) hok
              rw [← flat_lend] at hcs3
              have hgl := hm.lt hO hg
              rw [hve]
              refine .cr _ _ (.sl 0 (lendL es) _ _ cp p.sz _ (by rw [lendL_map, List.length_map]; exact hel) (by omega) hc1 hc2 (lend_wid hwid2) ⟨fun _ => ⟨fun hls => ?_, fun h => ?_⟩, fun k' p' hk' => ?_⟩ hgl (fun _ => hgl) (fun h => by omega) (fun h => by cases h) hcs3.1 (fun i u hu => ?_) hcs3.2)
              · rw [lendsOwn_of hdj] at hls; cases hls
              · rw [h] at hno; cases hno
              · obtain ⟨k1, n', a', o', hd', hO', _⟩ := ctO_some hk'
                intro hg'
                have e := hm.inj k1 k p' p g hO' hO hg' hg
                subst e
                exact apartKs_own hap (refKs_mem hd') (ownKs_mem hdj)
              · rw [List.getElem?_drop, List.getElem?_take] at hu
                split at hu
                · have := hr.cells hg (lo * p.sz + i) u hu
                  rw [add_plain'] at this ⊢
                  simpa using this
                · cases hu
            · have : es = [] := List.eq_nil_of_length_eq_zero (by omega)
              subst this
              rw [hve, show hi - lo = 0 by omega]
              exact .cr _ _ (.sl0 _ _ _ hc2)
          · cases hes
      | nil =>
        simp only [lendArg, Option.some.injEq] at hle
        subst hle
        have := (hvr.slice_).2.2 rfl
        rw [this]
        exact .cr _ _ (.sl0 _ _ _ (Nat.zero_le _))
      | oad k n a o =>
        obtain ⟨p, c0, hO, hlk, rfl, hsz, hlt, hor, rfl, rfl, rfl⟩ := lent_ref hm hle
        obtain ⟨p', g, hO', hpl, hg, hve, _⟩ := hvr.oad_cur hm hlk rfl
        rw [hO] at hO'
        injection hO' with hO'
        subst hO'
        show VR _ _ _ _ (.oad (mkId j c0.lend.cells.length 7) 1 0 0) v
        rw [hve, hsz]
        refine .oad _ 1 0 0 p g ?_ hpl hg
        have hj : mkId j p.sz 7 / 512 = j := by unfold mkId; omega
        unfold ctO
        rw [hj, hdj]
        simp only [hO, if_true]
      | i n =>
        simp only [lendArg, Option.some.injEq] at hle
        subst hle
        rw [hvr.int]; exact .cr _ _ (.i n)
      | y n =>
        simp only [lendArg, Option.some.injEq] at hle
        subst hle
        have h1 := hvr.byte_lt
        rw [hvr.byte]; exact .cr _ _ (.y n h1)
      | b n =>
        simp only [lendArg, Option.some.injEq] at hle
        subst hle
        rw [hvr.bool]; exact .cr _ _ (.b n)
      | s n =>
        simp only [lendArg, Option.some.injEq] at hle
        subst hle
        rw [hvr.str]; exact .cr _ _ (.s n)
      | st cs =>
        simp only [lendArg, Option.some.injEq] at hle
        subst hle
        obtain ⟨us, rfl, hc⟩ := hvr.st'
        refine .st _ _ (hc.lend_ (!old) ?_ hok)
        cases old with
        | false => exact .inl rfl
        | true => have := oldArgs_get (hold rfl) hdj; simp only [oldArg, allOldL_all, List.all_eq_true] at this; exact .inr this
      | sl p es =>
        simp only [lendArg, Option.some.injEq] at hle
        subst hle
        refine .cr _ _ ((hvr.sl').lend_ (!old) ?_ hok)
        cases old with
        | false => exact .inl rfl
        | true => have := oldArgs_get (hold rfl) hdj; exact .inr (by simpa only [oldArg, DV.allOld] using this)
      | _ => simp [lendArg] at hle
    · rw [List.getElem?_eq_none (by omega)]
      exact .dead _
  · obtain ⟨j, k0, n, a, o, hd, hO, hr1⟩ := ctRefs_mem hr
    rw [hr1]; unfold mkId; omega
end
end Go.Lg
