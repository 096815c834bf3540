/- Part 11 of a logical reading of translated Go: what a frame holds is said by lists, and each operation is proved against the model. No conditions. -/
import Derived.Test.YtadlmpjlkfbnfacLg10
namespace Go.Lg
open Go.RowKit
set_option linter.unusedVariables false

theorem foldl_set (off : Nat) : ∀ (vs : List Value) (k : Nat) (cells : Array Value), off + k + vs.length ≤ cells.size →
    ((vs.zipIdx k).foldl (fun (cs : Array Value) (p : Value × Nat) => cs.setIfInBounds (off + p.2) p.1) cells).toList = cells.toList.take (off + k) ++ vs ++ cells.toList.drop (off + k + vs.length)
  | [], k, cells, _ => by simp
  | v :: vs, k, cells, h => by
    simp only [List.length_cons] at h
    rw [List.zipIdx_cons, List.foldl_cons, foldl_set off vs (k + 1) _ (by simp; omega)]
    simp only [Array.toList_setIfInBounds, List.length_cons]
    have hlt : off + k < cells.toList.length := by simp; omega
    rw [List.set_eq_take_append_cons_drop, if_pos hlt]
    have e1 : (cells.toList.take (off + k) ++ v :: cells.toList.drop (off + k + 1)).take (off + (k + 1)) = cells.toList.take (off + k) ++ [v] := by
      rw [List.take_append, List.take_of_length_le (by simp; omega)]
      have : off + (k + 1) - (cells.toList.take (off + k)).length = 1 := by simp; omega
      rw [this]; simp
    have e2 : (cells.toList.take (off + k) ++ v :: cells.toList.drop (off + k + 1)).drop (off + (k + 1) + vs.length) = cells.toList.drop (off + k + (vs.length + 1)) := by
      rw [List.drop_append, List.drop_of_length_le (by simp; omega)]
      have : off + (k + 1) + vs.length - (cells.toList.take (off + k)).length = vs.length + 1 := by simp; omega
      rw [this, List.drop_succ_cons, List.drop_drop]
      simp only [List.nil_append]
      congr 1
      omega
    rw [e1, e2]
    simp

section
variable {w : World} {B : Nat} {ok : Nat → Prop}
theorem fill_step {cells : Array Value} {cs : List DV} (h : CRs w B ok cs cells.toList) {d : DV} {v : Value} (hd : CRs w B ok d.cells v.cells.toList) (off : Nat) (hl : off + d.cells.length ≤ cs.length) :
    CRs w B ok (over cs off d.cells) (v.cells.zipIdx.foldl (fun (cs : Array Value) (p : Value × Nat) => cs.setIfInBounds (off + p.2) p.1) cells).toList := by
  have h1 : v.cells.toList.length = d.cells.length := hd.1
  have h2 : cells.toList.length = cs.length := h.1
  have h2' : cells.size = cs.length := by simpa using h2
  have e : (v.cells.zipIdx.foldl (fun (cs : Array Value) (p : Value × Nat) => cs.setIfInBounds (off + p.2) p.1) cells) = (v.cells.toList.zipIdx 0).foldl (fun (cs : Array Value) (p : Value × Nat) => cs.setIfInBounds (off + p.2) p.1) cells := by
    rw [← Array.foldl_toList, Array.toList_zipIdx]
  rw [e, foldl_set off v.cells.toList 0 cells (by omega)]
  simp only [Nat.add_zero]
  unfold over
  refine ((h.take off).append hd).append ?_
  rw [h1]
  exact h.drop _

theorem fill_ok (place : Nat → Option (Nat × Nat)) : ∀ {parts : List (Nat × Value)} {ps : List (Nat × Nat)} {ds cs cs' : List DV} {cells : Array Value}, CRs w B ok cs cells.toList →
    parts.length = ps.length → (∀ (j i off sz : Nat) (v : Value), parts[j]? = some (i, v) → ps[j]? = some (off, sz) → place i = some (off, sz)) →
    (∀ (j : Nat) (d : DV) (v : Nat × Value), ds[j]? = some d → parts[j]? = some v → CRs w B ok d.cells v.2.cells.toList) → fillP cs ps ds = some cs' →
    ∃ cells', Instr.fill place cells parts = some cells' ∧ CRs w B ok cs' cells'.toList
  | [], [], [], cs, cs', cells, h, _, _, _, hf => by
    simp only [fillP, Option.some.injEq] at hf
    subst hf
    exact ⟨cells, rfl, h⟩
  | [], [], _ :: _, _, _, _, _, _, _, _, hf => by simp [fillP] at hf
  | [], _ :: _, _, _, _, _, _, hl, _, _, _ => by simp at hl
  | _ :: _, [], _, _, _, _, _, hl, _, _, _ => by simp at hl
  | _ :: _, _ :: _, [], _, _, _, _, _, _, _, hf => by simp [fillP] at hf
  | (i, v) :: parts, (off, sz) :: ps, d :: ds, cs, cs', cells, h, hl, hp, hd, hf => by
    simp only [fillP] at hf
    split at hf
    · rename_i hc
      have hd0 := hd 0 d (i, v) rfl rfl
      have h1 : v.cells.toList.length = d.cells.length := hd0.1
      have h1' : v.cells.size = sz := by rw [← hc.1, ← h1]; simp
      have h2 : cells.size = cs.length := by have := h.1; simpa using this
      have hstep := fill_step h hd0 off (by omega)
      obtain ⟨cells', hr, hcr⟩ := fill_ok place hstep (by simpa using hl) (fun j i' off' sz' v' h3 h4 => hp (j + 1) i' off' sz' v' (by simpa using h3) (by simpa using h4)) (fun j d' v' h3 h4 => hd (j + 1) d' v' (by simpa using h3) (by simpa using h4)) hf
      refine ⟨cells', ?_, hcr⟩
      rw [Instr.fill, hp 0 i off sz v rfl rfl]
      simp only
      rw [if_neg (by simp only [Bool.or_eq_true, decide_eq_true_eq]; omega)]
      exact hr
    · cases hf

theorem fillE_ok {sz : Nat} (hpos : 0 < sz) : ∀ {parts : List (Nat × Value)} {ds es es' : List DV} {cells : Array Value}, (∀ e ∈ es, e.cells.length = sz) → CRs w B ok (flat es) cells.toList →
    (∀ (j : Nat) (d : DV) (v : Nat × Value), ds[j]? = some d → parts[j]? = some v → CRs w B ok d.cells v.2.cells.toList ∧ ((∃ cs, d = .st cs) ∨ d.cells = [d])) → fillE sz es (parts.map (·.1)) ds = some es' →
    ∃ cells', Instr.fill (fun i => some (i * sz, sz)) cells parts = some cells' ∧ CRs w B ok (flat es') cells'.toList ∧ (∀ e ∈ es', e.cells.length = sz) ∧ es'.length = es.length
  | [], [], es, es', cells, hw, h, _, hf => by
    simp only [List.map_nil, fillE, Option.some.injEq] at hf
    subst hf
    exact ⟨cells, rfl, h, hw, rfl⟩
  | [], _ :: _, _, _, _, _, _, _, hf => by simp [fillE] at hf
  | _ :: _, [], _, _, _, _, _, _, hf => by simp [fillE] at hf
  | (i, v) :: parts, d :: ds, es, es', cells, hw, h, hd, hf => by
    simp only [List.map_cons, fillE] at hf
    split at hf
    · rename_i hc
      obtain ⟨hd0, _⟩ := hd 0 d (i, v) rfl rfl
      have h1 : v.cells.toList.length = d.cells.length := hd0.1
      have h1' : v.cells.size = sz := by rw [← hc.2, ← h1]; simp
      have h2 : cells.size = (flat es).length := by have := h.1; simpa using this
      have hfl := flat_len hw
      have hmul : i * sz + sz ≤ es.length * sz := by rw [← Nat.succ_mul]; exact Nat.mul_le_mul_right _ hc.1
      have hstep := fill_step h hd0 (i * sz) (by omega)
      have hset : flat (es.set i d) = over (flat es) (i * sz) d.cells := by rw [flat_set hw hc.1 d hc.2]; unfold over; rw [hc.2]
      rw [← hset] at hstep
      have hw' : ∀ e ∈ es.set i d, e.cells.length = sz := fun e he => by
        rcases List.mem_or_eq_of_mem_set he with h | h
        · exact hw e h
        · rw [h]; exact hc.2
      obtain ⟨cells', hr, hcr, hw2, hl2⟩ := fillE_ok hpos hw' hstep (fun j d' v' h3 h4 => hd (j + 1) d' v' (by simpa using h3) (by simpa using h4)) hf
      refine ⟨cells', ?_, hcr, hw2, by rw [hl2]; simp⟩
      rw [Instr.fill]
      simp only
      rw [if_neg (by simp only [Bool.or_eq_true, decide_eq_true_eq]; omega)]
      exact hr
    · cases hf
end

section
variable {P : Program} {c : Cx} {fr : Nat → Bool} {w : World} {O : OM} {ob : OB} {o : Oper} {ρ : Operand → Value}

def fieldsOf (P : Program) (t : TypeId) : List Nat → Option (List (Nat × Nat))
  | [] => some []
  | i :: is => match fieldOf P t i with
    | some (off, sz, _) => match fieldsOf P t is with
      | some ps => some ((off, sz) :: ps)
      | none => none
    | none => none
theorem fieldsOf_get {t : TypeId} : ∀ {is : List Nat} {ps : List (Nat × Nat)}, fieldsOf P t is = some ps → ps.length = is.length ∧ ∀ (j i : Nat) (p : Nat × Nat), is[j]? = some i → ps[j]? = some p → ∃ g, fieldOf P t i = some (p.1, p.2, g)
  | [], ps, h => by simp only [fieldsOf, Option.some.injEq] at h; subst h; exact ⟨rfl, by simp⟩
  | i :: is, ps, h => by
    simp only [fieldsOf] at h
    split at h
    · rename_i off sz g hf
      split at h
      · rename_i ps' hps
        injection h with h
        subst h
        obtain ⟨h1, h2⟩ := fieldsOf_get hps
        refine ⟨by simp [h1], fun j i' p hi hp => ?_⟩
        cases j with
        | zero => simp at hi hp; subst hi; subst hp; exact ⟨g, hf⟩
        | succ j => simp at hi hp; exact h2 j i' p hi hp
      · cases h
    · cases h

def fieldSizes (P : Program) (t : TypeId) : Bool := match P.underlying t with
  | some (.struct fs) => fs.toList.all fun f => (P.info? f.type).isSome
  | _ => false

theorem out_build (hm : MR c O ob w) {t : TypeId} {parts : Array (Nat × Operand)} (ho : o.op = .build t parts) {sz : Nat} {zs : List DV} (hz : elemInfo P t = some (sz, zs)) (hfs : fieldSizes P t = true) {ps : List (Nat × Nat)} (hps : fieldsOf P t (parts.toList.map (·.1)) = some ps)
    {xs ds cs : List DV} {ob' : OB} (hxl : xs.length = parts.size) (hx : ∀ (j : Nat) (d : DV) (q : Nat × Operand), xs[j]? = some d → parts.toList[j]? = some q → VR w c.B (okb c.ok0 c.B O) O d (ρ q.2)) (hs : settleL ob xs = some (ds, ob')) (hf : fillP zs ps ds = some cs) :
    Out P c fr w O ((execOp ρ o).run P w) (.st cs) ob' := by
  obtain ⟨i, zv, hi, hzv, hb, hc1, hc2, hpos, h64, hcs⟩ := elemInfo_some hz
  obtain ⟨O1, hm1, ht1, hdl, hds⟩ := settleL_ok trivial (vs := parts.toList.map fun q => ρ q.2) hm (by simp [hxl]) (fun j d v hd hv => by
    rw [List.getElem?_map, Option.map_eq_some_iff] at hv
    obtain ⟨q, hq, rfl⟩ := hv
    exact hx j d q hd hq) hs
  have hcr := cellsC_ok w c.B (okb c.ok0 c.B O1) hcs
  obtain ⟨hpl, hpg⟩ := fieldsOf_get hps
  unfold fieldSizes at hfs
  split at hfs
  · rename_i fs hu
    have hplaces : (fs.mapM fun (f : Field) => (do pure (f.offset, ← sizeOf f.type) : Sem (Nat × Nat))).run P w = .ok (fs.map fun f => (f.offset, ((P.info? f.type).map (·.size)).getD 0)) w := by
      refine run_mapM_array _ _ fs (fun f hf => ?_)
      have := (List.all_eq_true.1 hfs) f hf
      obtain ⟨j, hj⟩ := Option.isSome_iff_exists.1 this
      simp [sizeOf, typeInfo, hj]
    obtain ⟨cells', hr, hcr'⟩ := fill_ok (w := w) (B := c.B) (ok := okb c.ok0 c.B O1) (fun k => (fs.map fun f => (f.offset, ((P.info? f.type).map (·.size)).getD 0))[k]?) (parts := parts.toList.map fun q => (q.1, ρ q.2)) (ps := ps) (ds := ds) hcr (by simp [hpl])
      (fun j k off s v h1 h2 => by
        rw [List.getElem?_map, Option.map_eq_some_iff] at h1
        obtain ⟨q, hq, he⟩ := h1
        simp only [Prod.mk.injEq] at he
        obtain ⟨rfl, rfl⟩ := he
        obtain ⟨g, hg⟩ := hpg j q.1 (off, s) (by simp [hq]) h2
        unfold fieldOf at hg
        rw [hu] at hg
        simp only at hg
        split at hg
        · rename_i x hx
          split at hg
          · rename_i n g' hn hg'
            split at hg
            · injection hg with hg
              simp only [Prod.mk.injEq] at hg
              obtain ⟨rfl, rfl, _⟩ := hg
              simp only [szOf] at hn
              simp [hx, hn]
            · cases hg
          · cases hg
        · cases hg)
      (fun j d v h1 h2 => by
        rw [List.getElem?_map, Option.map_eq_some_iff] at h2
        obtain ⟨q, hq, rfl⟩ := h2
        exact (hds j d (ρ q.2) h1 (by simp [hq])).1) hf
    refine ⟨.agg cells', w, O1, .inl ?_, hm1, .st _ _ hcr', ht1.mono (fun _ h => h.elim)⟩
    have e : (parts.map fun x => (x.1, ρ x.2)).toList = parts.toList.map fun q => (q.1, ρ q.2) := by simp
    simp only [execOp, ho, Instr.build, Sem.run_bind, zeroValue, typeInfo, run_program, hi, hzv, Sem.run_pure, Result.andThen_ok, run_underlying hu, hplaces, e, hr]
  · cases hfs

theorem out_bslice (hm : MR c O ob w) (hF : Fresh c fr) {t e : TypeId} {len : Nat} {parts : Array (Nat × Operand)} (ho : o.op = .buildSlice t len parts) (ht : P.underlying t = some (.slice e)) {sz : Nat} {z : DV} (hz : zeroD P e = some (sz, z)) (hlen : len * sz ≤ 65536)
    {id : Nat} (hid : fr id = true) (hsz : szId id = sz) {xs ds es : List DV} {ob1 : OB} (hxl : xs.length = parts.size) (hx : ∀ (j : Nat) (d : DV) (q : Nat × Operand), xs[j]? = some d → parts.toList[j]? = some q → VR w c.B (okb c.ok0 c.B O) O d (ρ q.2)) (hs : settleL ob xs = some (ds, ob1))
    (hf : fillE sz (List.replicate len z) (parts.toList.map (·.1)) ds = some es) : Out P c fr w O ((execOp ρ o).run P w) (.own id len 0 len) (putO ob1 id es) := by
  obtain ⟨zs, he, hzc⟩ := zeroD_some hz
  obtain ⟨i, zv, hi, hzv, hb, hc1, hc2, hpos, h64, hcs⟩ := elemInfo_some he
  obtain ⟨O1, hm1, ht1, hdl, hds⟩ := settleL_ok trivial (vs := parts.toList.map fun q => ρ q.2) hm (by simp [hxl]) (fun j d v hd hv => by
    rw [List.getElem?_map, Option.map_eq_some_iff] at hv
    obtain ⟨q, hq, rfl⟩ := hv
    exact hx j d q hd hq) hs
  have hcr := cellsC_ok w c.B (okb c.ok0 c.B O1) hcs
  have hdl' : z.cells.length = sz := by rw [hzc, ← hcr.1]; simpa using hc1
  have hzer := CRs_zeros hcr hc1 hpos hzc len (len * sz) (Nat.le_refl _)
  rw [List.take_of_length_le (by simp [size_madeCells])] at hzer
  obtain ⟨cells', hr, hcr', hw', hl'⟩ := fillE_ok hpos (parts := parts.toList.map fun q => (q.1, ρ q.2)) (fun q hq => by rw [List.eq_of_mem_replicate hq]; exact hdl') hzer (fun j d v h1 h2 => by
    rw [List.getElem?_map, Option.map_eq_some_iff] at h2
    obtain ⟨q, hq, rfl⟩ := h2
    obtain ⟨h3, h4⟩ := hds j d (ρ q.2) h1 (by simp [hq])
    refine ⟨h3, ?_⟩
    rcases h4 with h4 | h4
    · exact .inl h4
    · exact .inr h4.cells.1) (by simpa [Function.comp_def] using hf)
  rw [List.length_replicate] at hl'
  have hfl := flat_len hw'
  have hcl : cells'.size = len * sz := by have := hcr'.1; rw [hfl, hl'] at this; simpa using this
  obtain ⟨h1, h2⟩ := hm1.new id (hF.ne hid) es cells' len len sz e cells'.toList hsz.symm hl' (Nat.le_refl _) (by have : len ≤ len * sz := Nat.le_mul_of_pos_right _ hpos; simp [maxLen]; omega) hpos hw' hcl (List.take_of_length_le (by simp; omega)) (by simp; omega) hcr'
  refine ⟨.slice (some ⟨w.heap.size, 0, none⟩) len len, _, _, .inl ?_, h1, ?_, (ht1.trans h2).mono (fun j hj => by rcases hj with h | h; exact h.elim; rw [h]; exact hid)⟩
  · have e1 : (parts.map fun x => (x.1, ρ x.2)).toList = parts.toList.map fun q => (q.1, ρ q.2) := by simp
    have hbig : ¬ (len * i.size > 2 ^ 24) := by rw [hc2]; omega
    simp only [execOp, ho, Instr.buildSlice, Sem.run_bind, run_underlying ht, Result.andThen_ok, sizeOf, typeInfo, run_program, hi, Sem.run_pure, hbig, if_false, e1]
    rw [hc2]
    by_cases h0 : len * sz = 0
    · have hm0 : Array.map (fun x => (#[] : Array Value)[x % (#[] : Array Value).size]!) (Array.range (len * sz)) = madeCells zv.cells (len * sz) := by simp [h0, madeCells]
      rw [if_pos h0]
      simp only [Sem.run_bind, Sem.run_pure, Result.andThen_ok, hm0, hr]
      simp [newRow]
    · have hm0 : Array.map (fun x => zv.cells[x % zv.cells.size]!) (Array.range (len * sz)) = madeCells zv.cells (len * sz) := rfl
      rw [if_neg h0]
      simp only [Sem.run_bind, Sem.run_pure, Result.andThen_ok, zeroValue, typeInfo, run_program, hi, hzv, hm0, hr]
      simp [newRow]
  · exact .own id len 0 len _ _ (upd_same _ _ _) rfl (Nat.zero_le _) (Nat.le_refl _) ⟨_, len, rfl, by omega, by have : len ≤ len * sz := Nat.le_mul_of_pos_right _ hpos; simp [maxLen]; omega, fun h => ⟨_, rfl, by simp⟩, fun _ _ => rfl⟩
end
end Go.Lg
