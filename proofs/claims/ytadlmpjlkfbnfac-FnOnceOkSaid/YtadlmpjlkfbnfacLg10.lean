/- Part 10 of a logical reading of translated Go: what a frame holds is said by lists, and each operation is proved against the model. No conditions. -/
import Derived.Test.YtadlmpjlkfbnfacLg9
namespace Go.Lg
open Go.RowKit
set_option linter.unusedVariables false

theorem szId_mk (d sz i : Nat) (hs : sz < 64) (hi : i < 8) : szId (mkId d sz i) = sz := by unfold szId mkId; omega

theorem run_mapM_list {P : Program} {w : World} {α β : Type} (f : α → Sem β) (g : α → β) : ∀ (l : List α), (∀ x ∈ l, (f x).run P w = .ok (g x) w) → (l.mapM f).run P w = .ok (l.map g) w
  | [], _ => by simp
  | x :: l, h => by
    rw [List.mapM_cons]
    simp only [Sem.run_bind, h x (List.mem_cons_self ..), Result.andThen_ok, run_mapM_list f g l (fun y hy => h y (List.mem_cons_of_mem _ hy))]
    simp
theorem run_mapM_array {P : Program} {w : World} {α β : Type} (f : α → Sem β) (g : α → β) (l : Array α) (h : ∀ x ∈ l.toList, (f x).run P w = .ok (g x) w) : (l.mapM f).run P w = .ok (l.map g) w := by
  have e : l.mapM f = List.toArray <$> l.toList.mapM f := by rw [Array.mapM_eq_mapM_toList]
  rw [e, Sem.run_map, run_mapM_list f g l.toList h]
  simp only [Result.andThen_ok]
  rw [← Array.toList_map, Array.toArray_toList]

structure Fresh (c : Cx) (fr : Nat → Bool) : Prop where
  a : ∀ id, fr id = true → id % 8 ≠ 7
  b : ∀ r ∈ c.refs, r.1 % 8 = 7
theorem Fresh.ne {c : Cx} {fr : Nat → Bool} (h : Fresh c fr) {id : Nat} (hf : fr id = true) : ∀ r ∈ c.refs, r.1 ≠ id := fun r hr e => h.a id hf (by rw [← e]; exact h.b r hr)

section
variable {P : Program} {c : Cx} {fr : Nat → Bool} {w : World} {O : OM} {ob : OB} {o : Oper} {ρ : Operand → Value}

theorem elemInfo_some {e : TypeId} {sz : Nat} {zs : List DV} (h : elemInfo P e = some (sz, zs)) :
    ∃ i z, P.info? e = some i ∧ i.zero = some z ∧ i.bytes ≤ 65536 ∧ z.cells.size = sz ∧ i.size = sz ∧ 0 < sz ∧ sz < 64 ∧ cellsC z.cells.toList = some zs := by
  unfold elemInfo at h
  split at h
  · rename_i i hi
    split at h
    · rename_i z hz
      split at h
      · rename_i hc
        simp only [Option.map_eq_some_iff, Prod.mk.injEq] at h
        obtain ⟨zs', h1, rfl, rfl⟩ := h
        exact ⟨i, z, hi, hz, hc.1, hc.2.1, rfl, hc.2.2.1, hc.2.2.2, h1⟩
      · cases h
    · cases h
  · cases h
theorem zeroD_some {e : TypeId} {sz : Nat} {d : DV} (h : zeroD P e = some (sz, d)) : ∃ zs, elemInfo P e = some (sz, zs) ∧ d.cells = zs := by
  unfold zeroD at h
  split at h
  · rename_i n cs he hg
    injection h with h
    simp only [Prod.mk.injEq] at h
    obtain ⟨rfl, rfl⟩ := h
    exact ⟨cs, he, rfl⟩
  · rename_i n c he hg
    injection h with h
    simp only [Prod.mk.injEq] at h
    obtain ⟨rfl, rfl⟩ := h
    refine ⟨[c], he, ?_⟩
    obtain ⟨i, z, _, _, _, _, _, _, _, hz⟩ := elemInfo_some he
    obtain ⟨u, _, hu⟩ := (cellsC_ok default 0 (fun _ => True) hz).get (j := 0) rfl
    exact hu.cells.1
  · cases h

theorem out_newnil (hm : MR c O ob w) (hF : Fresh c fr) (ho : o.op = .assign (.const (.slice none 0 0))) (hρ : ∀ v, ρ (.const v) = v) {id : Nat} (hid : fr id = true) (hsz : 0 < szId id) : Out P c fr w O ((execOp ρ o).run P w) (.own id 0 0 0) (putO ob id []) := by
  obtain ⟨h1, h2⟩ := hm.newNil id (hF.ne hid) (szId id) 0 hsz rfl
  refine ⟨.slice none 0 0, w, _, .inl ?_, h1, ?_, h2.mono (fun j hj => by rw [hj]; exact hid)⟩
  · simp only [execOp, ho, hρ]; rfl
  · exact .own id 0 0 0 _ _ (upd_same _ _ _) rfl (Nat.le_refl _) (Nat.le_refl _) ⟨none, 0, rfl, Nat.le_refl _, Nat.zero_le _, fun h => absurd h (by omega), fun _ _ => rfl⟩

theorem out_alloc (hm : MR c O ob w) (hF : Fresh c fr) {e : TypeId} (ho : o.op = .alloc e) {sz : Nat} {z : DV} (hz : zeroD P e = some (sz, z)) {id : Nat} (hid : fr id = true) (hsz : szId id = sz) : Out P c fr w O ((execOp ρ o).run P w) (.oad id 1 0 0) (putO ob id [z]) := by
  obtain ⟨zs, he, hzc⟩ := zeroD_some hz
  obtain ⟨i, zv, hi, hzv, hb, hc1, hc2, hpos, h64, hcs⟩ := elemInfo_some he
  have hcr := cellsC_ok w c.B (okb c.ok0 c.B O) hcs
  obtain ⟨h1, h2⟩ := hm.new id (hF.ne hid) [z] zv.cells 1 1 sz e zv.cells.toList hsz.symm rfl (Nat.le_refl _) (by simp [maxLen]) hpos (fun x hx => by simp at hx; subst hx; rw [hzc, ← hcr.1]; simpa using hc1) (by omega)
    (List.take_of_length_le (by simp; omega)) (by simp; omega) (by simpa [flat, hzc] using hcr)
  refine ⟨.pointer (some ⟨w.heap.size, 0, none⟩), _, _, .inl ?_, h1, ?_, h2.mono (fun j hj => by rw [hj]; exact hid)⟩
  · simp [execOp, ho, Instr.alloc, zeroValue, typeInfo, hi, hzv, newVar, newRow]
  · have := VR.oad (w := w.alloc (.cells zv.cells e)) (B := c.B) (ok := okb c.ok0 c.B (upd O id (some ⟨.slice (some ⟨w.heap.size, 0, none⟩) 1 1, 1, e, sz⟩))) id 1 0 0 _ w.heap.size (upd_same O id (some ⟨.slice (some ⟨w.heap.size, 0, none⟩) 1 1, 1, e, sz⟩)) rfl rfl
    simpa using this

theorem out_box (hm : MR c O ob w) (hF : Fresh c fr) {x : Operand} {e : TypeId} (ho : o.op = .box e x) {d d' : DV} {ob1 : OB} (hx : VR w c.B (okb c.ok0 c.B O) O d (ρ x)) (hs : settle ob d = some (d', ob1)) {id : Nat} (hid : fr id = true)
    (hsz : d'.cells.length = szId id) (hpos : 0 < szId id) : Out P c fr w O ((execOp ρ o).run P w) (.oad id 1 0 0) (putO ob1 id [d']) := by
  obtain ⟨O1, hm1, ht1, hcr, _, _, _⟩ := settle_ok hm hx hs
  have hl : (ρ x).cells.toList.length = szId id := by rw [hcr.1, hsz]
  obtain ⟨h1, h2⟩ := hm1.new id (hF.ne hid) [d'] (ρ x).cells 1 1 (szId id) e (ρ x).cells.toList rfl rfl (Nat.le_refl _) (by simp [maxLen]) hpos (fun z hz => by simp at hz; subst hz; exact hsz) (by simpa using hl)
    (List.take_of_length_le (by omega)) (by omega) (by simpa [flat] using hcr)
  refine ⟨.pointer (some ⟨w.heap.size, 0, none⟩), _, _, .inl ?_, h1, ?_, (ht1.trans h2).mono (fun j hj => by rcases hj with h | h; exact h.elim; rw [h]; exact hid)⟩
  · simp [execOp, ho, Instr.box, newVar, newRow]
  · have := VR.oad (w := w.alloc (.cells (ρ x).cells e)) (B := c.B) (ok := okb c.ok0 c.B (upd O1 id (some ⟨.slice (some ⟨w.heap.size, 0, none⟩) 1 1, 1, e, szId id⟩))) id 1 0 0 _ w.heap.size (upd_same O1 id (some ⟨.slice (some ⟨w.heap.size, 0, none⟩) 1 1, 1, e, szId id⟩)) rfl rfl
    simpa using this

theorem CRs_zeros {B : Nat} {ok : Nat → Prop} {zs : List DV} {z : Array Value} (h : CRs w B ok zs z.toList) {sz : Nat} (hsz : z.size = sz) (hpos : 0 < sz) {d : DV} (hd : d.cells = zs) (n : Nat) (N : Nat) (hN : n * sz ≤ N) :
    CRs w B ok (flat (List.replicate n d)) ((madeCells z N).toList.take (n * sz)) := by
  have hdl : d.cells.length = sz := by rw [hd, ← h.1]; simpa using hsz
  have hwid : ∀ e ∈ List.replicate n d, e.cells.length = sz := fun e he => by rw [List.eq_of_mem_replicate he]; exact hdl
  have hfl := flat_len hwid
  rw [List.length_replicate] at hfl
  have hsize : (madeCells z N).size = N := size_madeCells z N
  refine ⟨by rw [List.length_take, hfl]; simp [hsize]; omega, fun j x u hx hu => ?_⟩
  have hj : j < n * sz := by rw [← hfl]; exact (List.getElem?_eq_some_iff.1 hx).1
  have hdiv : j / sz < n := Nat.div_lt_of_lt_mul (by rw [Nat.mul_comm]; exact hj)
  have hmod : j % sz < sz := Nat.mod_lt _ hpos
  have h1 := flat_get hwid (i := j / sz) (e := d) (by simp [hdiv]) hmod
  rw [show j / sz * sz + j % sz = j by rw [Nat.mul_comm]; exact Nat.div_add_mod j sz] at h1
  rw [h1, hd] at hx
  rw [List.getElem?_take, if_pos hj] at hu
  have h2 : (madeCells z N).toList[j]? = some (z[j % sz]!) := by
    simp [madeCells, hsz, show j < N by omega]
  rw [h2] at hu
  injection hu with hu
  refine h.2 (j % sz) x u hx ?_
  rw [← hu]
  have : j % sz < z.size := by omega
  simp [this]

theorem out_make (hm : MR c O ob w) (hF : Fresh c fr) {x y : Operand} {t e : TypeId} (ho : o.op = .makeSlice t x y) (ht : P.underlying t = some (.slice e)) {sz : Nat} {z : DV} (hz : zeroD P e = some (sz, z)) {id : Nat} (hid : fr id = true) (hsz : szId id = sz) {n k : Int}
    (hx : VR w c.B (okb c.ok0 c.B O) O (.i n) (ρ x)) (hy : VR w c.B (okb c.ok0 c.B O) O (.i k) (ρ y)) (h0 : 0 ≤ n) (hnk : n ≤ k) (hk : k ≤ bound) :
    Out P c fr w O ((execOp ρ o).run P w) (.own id n.toNat 0 n.toNat) (putO ob id (List.replicate n.toNat z)) := by
  obtain ⟨zs, he, hzc⟩ := zeroD_some hz
  obtain ⟨i, zv, hi, hzv, hb, hc1, hc2, hpos, h64, hcs⟩ := elemInfo_some he
  have hcr := cellsC_ok w c.B (okb c.ok0 c.B O) hcs
  have hdl : z.cells.length = sz := by rw [hzc, ← hcr.1]; simpa using hc1
  have hk' : k ≤ 1073741824 := hk
  have hr := run_make (P := P) w t e i zv ht hi hzv .i64 .i64 n k h0 hnk (by
    have h1 : (i.bytes : Int) ≤ 65536 := by omega
    have h2 : (i.bytes : Int) * k ≤ 65536 * 1073741824 := Int.mul_le_mul h1 hk' (by omega) (by omega)
    omega) (by omega)
  have hmul : n.toNat * sz ≤ k.toNat * sz := Nat.mul_le_mul_right _ (by omega)
  obtain ⟨h1, h2⟩ := hm.new id (hF.ne hid) (List.replicate n.toNat z) (madeCells zv.cells (k.toNat * i.size)) n.toNat k.toNat sz e _ hsz.symm (by simp) (by omega) (by simp [maxLen]; omega) hpos
    (fun q hq => by rw [List.eq_of_mem_replicate hq]; exact hdl) (by rw [size_madeCells, hc2]) rfl (by rw [List.length_take, Array.length_toList, size_madeCells, hc2]; exact Nat.min_eq_left hmul) (CRs_zeros hcr hc1 hpos hzc n.toNat _ (by rw [hc2]; exact hmul))
  refine ⟨.slice (some ⟨w.heap.size, 0, none⟩) n.toNat k.toNat, _, _, .inl ?_, h1, ?_, h2.mono (fun j hj => by rw [hj]; exact hid)⟩
  · simp only [execOp, ho, hx.int, hy.int, Sem.run_bind, hr, Result.andThen_ok]; rfl
  · refine .own id n.toNat 0 n.toNat _ _ (upd_same _ _ _) rfl (Nat.zero_le _) (Nat.le_refl _) ⟨_, k.toNat, rfl, by omega, by simp [maxLen]; omega, fun h => ⟨_, rfl, by simp⟩, fun _ _ => rfl⟩

theorem settleL_ok (ht0 : True) : ∀ {xs : List DV} {vs : List Value} {ds : List DV} {ob ob' : OB} {O : OM}, MR c O ob w → vs.length = xs.length → (∀ (j : Nat) (d : DV) (v : Value), xs[j]? = some d → vs[j]? = some v → VR w c.B (okb c.ok0 c.B O) O d v) →
    settleL ob xs = some (ds, ob') → ∃ O', MR c O' ob' w ∧ Tr c.ok0 c.B (fun _ => False) w O w O' ∧ ds.length = vs.length ∧ ∀ (j : Nat) (d : DV) (v : Value), ds[j]? = some d → vs[j]? = some v → CRs w c.B (okb c.ok0 c.B O') d.cells v.cells.toList ∧ ((∃ cs, d = .st cs) ∨ CR w c.B (okb c.ok0 c.B O') d v)
  | [], [], ds, ob, ob', O, hm, _, _, hs => by
    simp only [settleL, Option.some.injEq, Prod.mk.injEq] at hs
    obtain ⟨rfl, rfl⟩ := hs
    exact ⟨O, hm, Tr.refl _ _ _ _ _, rfl, fun j d v h => by simp at h⟩
  | [], _ :: _, _, _, _, _, _, hl, _, _ => by simp at hl
  | _ :: _, [], _, _, _, _, _, hl, _, _ => by simp at hl
  | x :: xs, v :: vs, ds, ob, ob', O, hm, hl, h, hs => by
    simp only [settleL] at hs
    cases h1 : settle ob x with
    | none => rw [h1] at hs; cases hs
    | some r1 =>
      obtain ⟨d1, ob1⟩ := r1
      rw [h1] at hs
      simp only at hs
      cases h2 : settleL ob1 xs with
      | none => rw [h2] at hs; cases hs
      | some r2 =>
        obtain ⟨ds2, ob2⟩ := r2
        rw [h2] at hs
        injection hs with hs
        simp only [Prod.mk.injEq] at hs
        obtain ⟨rfl, rfl⟩ := hs
        obtain ⟨O1, hm1, ht1, hc1, hs1, _, _⟩ := settle_ok hm (h 0 x v rfl rfl) h1
        obtain ⟨O2, hm2, ht2, hl2, hc2⟩ := settleL_ok ht0 hm1 (by simpa using hl) (fun j d u hd hu => (h (j + 1) d u (by simpa using hd) (by simpa using hu)).tr ht1 (fun _ h => h.elim)) h2
        refine ⟨O2, hm2, (ht1.trans ht2).mono (fun _ h => by rcases h with h | h <;> exact h), by simp [hl2], fun j d u hd hu => ?_⟩
        cases j with
        | zero =>
          simp at hd hu
          subst hd; subst hu
          refine ⟨hc1.tr ht2, ?_⟩
          rcases hs1 with hs1 | hs1
          · exact .inl hs1
          · exact .inr (hs1.tr ht2)
        | succ j => simp at hd hu; exact hc2 j d u hd hu
end
end Go.Lg
