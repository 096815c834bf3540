/- Part 8 of a logical reading of translated Go: what a frame holds is said by lists, and each operation is proved against the model. No conditions. -/
import Derived.Test.YtadlmpjlkfbnfacLg7
namespace Go.Lg
open Go.RowKit
set_option linter.unusedVariables false

section
variable {P : Program} {c : Cx} {fr : Nat → Bool} {w : World} {O : OM} {ob : OB} {o : Oper} {ρ : Operand → Value}

theorem CR.sl' {w : World} {B : Nat} {ok : Nat → Prop} {p : Nat} {es : List DV} {v : Value} (h : CR w B ok (.sl p es) v) (hne : 0 < es.length) :
    ∃ (ad : Addr) (cap sz : Nat) (xs : List Value), v = .slice (some ad) es.length cap ∧ es.length ≤ cap ∧ cap ≤ maxLen ∧ (∀ e ∈ es, e.cells.length = sz) ∧ ok ad.block ∧ ad.block < w.heap.size ∧ (p = 0 → ad.block < B) ∧ (p = 1 ∨ p = 3 → B ≤ ad.block) ∧
      (∀ (j : Nat) (u : Value), xs[j]? = some u → w.cell? (ad.add j) = some u) ∧ CRs w B ok (flat es) xs := by
  cases h with
  | sl0 => simp at hne
  | sl _ _ ad n cap sz xs hn h0 hc hm hsz hok hlt hold hnew hrow hl hcell hrec => subst hn; exact ⟨ad, cap, sz, xs, rfl, hc, hm, hsz, hok, hlt, hold, hnew, hcell, hl, hrec⟩
theorem VR.sl' {p : Nat} {es : List DV} {v : Value} (h : VR w c.B (okb c.ok0 c.B O) O (.sl p es) v) : CR w c.B (okb c.ok0 c.B O) (.sl p es) v := by
  cases h with | cr _ _ h => exact h

/-- An owned slice that is up to date. -/
theorem VR.own_cur {k n lo hi : Nat} {v : Value} {es : List DV} (hm : MR c O ob w) (h : VR w c.B (okb c.ok0 c.B O) O (.own k n lo hi) v) (hl : lookO ob k = some es) (hn : es.length = n) :
    ∃ p, O k = some p ∧ p.len = n ∧ lo ≤ hi ∧ hi ≤ n ∧ view p lo hi v ∧ OR w c.B (okb c.ok0 c.B O) p es := by
  obtain ⟨p, hO, ho⟩ := hm.get hl
  have hp : p.len = n := by rw [ho.len, hn]
  cases h with
  | cr _ _ h => cases h
  | own _ _ _ _ p' _ hO' hn' h1 h2 hv => rw [hO] at hO'; injection hO' with hO'; subst hO'; exact ⟨p, hO, hp, h1, h2, hv, ho⟩
  | ownS _ _ _ _ A cap hS => have := hS p hO; omega
theorem VR.oad_cur {k n a q : Nat} {v : Value} {es : List DV} (hm : MR c O ob w) (h : VR w c.B (okb c.ok0 c.B O) O (.oad k n a q) v) (hl : lookO ob k = some es) (hn : es.length = n) :
    ∃ p g, O k = some p ∧ p.len = n ∧ p.hv.ownBlock = some g ∧ v = .pointer (some ⟨g, a * p.sz + q, none⟩) ∧ OR w c.B (okb c.ok0 c.B O) p es := by
  obtain ⟨p, hO, ho⟩ := hm.get hl
  have hp : p.len = n := by rw [ho.len, hn]
  cases h with
  | cr _ _ h => cases h
  | oad _ _ _ _ p' g hO' hn' hg => rw [hO] at hO'; injection hO' with hO'; subst hO'; exact ⟨p, g, hO, hp, hg, rfl, ho⟩
  | oadS _ _ _ _ ad hS => have := hS p hO; omega

theorem mem_take_drop {α : Type} {x : α} {l : List α} {a b : Nat} (h : x ∈ (l.take b).drop a) : x ∈ l := List.mem_of_mem_take (List.mem_of_mem_drop h)

/-- A value on its way into a cell. -/
theorem settle_ok (hm : MR c O ob w) {d d' : DV} {v : Value} {ob' : OB} (h : VR w c.B (okb c.ok0 c.B O) O d v) (hs : settle ob d = some (d', ob')) :
    ∃ O', MR c O' ob' w ∧ Tr c.ok0 c.B (fun _ => False) w O w O' ∧ CRs w c.B (okb c.ok0 c.B O') d'.cells v.cells.toList ∧ ((∃ cs, d' = .st cs) ∨ CR w c.B (okb c.ok0 c.B O') d' v) ∧
      (∀ k p', O' k = some p' → O k = some p') ∧ (∀ k es, lookO ob' k = some es → lookO ob k = some es) := by
  have plain : ∀ {d : DV}, VR w c.B (okb c.ok0 c.B O) O d v → (∃ v0, CR w c.B (okb c.ok0 c.B O) d v0 ∧ v0 = v) → d' = d → ob' = ob →
      ∃ O', MR c O' ob' w ∧ Tr c.ok0 c.B (fun _ => False) w O w O' ∧ CRs w c.B (okb c.ok0 c.B O') d'.cells v.cells.toList ∧ ((∃ cs, d' = .st cs) ∨ CR w c.B (okb c.ok0 c.B O') d' v) ∧
      (∀ k p', O' k = some p' → O k = some p') ∧ (∀ k es, lookO ob' k = some es → lookO ob k = some es) := by
    rintro d _ ⟨v0, hc, rfl⟩ rfl rfl
    refine ⟨O, hm, Tr.refl _ _ _ _ _, ?_, .inr hc, fun _ _ h => h, fun _ _ h => h⟩
    rw [hc.cells.1, hc.cells.2]
    exact .one hc
  cases d with
  | i n => simp only [settle, Option.some.injEq, Prod.mk.injEq] at hs; exact plain h ⟨v, by cases h with | cr _ _ h => exact h, rfl⟩ hs.1.symm hs.2.symm
  | y n => simp only [settle, Option.some.injEq, Prod.mk.injEq] at hs; exact plain h ⟨v, by cases h with | cr _ _ h => exact h, rfl⟩ hs.1.symm hs.2.symm
  | b n => simp only [settle, Option.some.injEq, Prod.mk.injEq] at hs; exact plain h ⟨v, by cases h with | cr _ _ h => exact h, rfl⟩ hs.1.symm hs.2.symm
  | s n => simp only [settle, Option.some.injEq, Prod.mk.injEq] at hs; exact plain h ⟨v, by cases h with | cr _ _ h => exact h, rfl⟩ hs.1.symm hs.2.symm
  | sl p es => simp only [settle, Option.some.injEq, Prod.mk.injEq] at hs; exact plain h ⟨v, h.sl', rfl⟩ hs.1.symm hs.2.symm
  | st cs =>
    simp only [settle, Option.some.injEq, Prod.mk.injEq] at hs
    obtain ⟨rfl, rfl⟩ := hs
    obtain ⟨vs, rfl, hc⟩ := h.st'
    exact ⟨O, hm, Tr.refl _ _ _ _ _, hc, .inl ⟨_, rfl⟩, fun _ _ h => h, fun _ _ h => h⟩
  | nil =>
    simp only [settle, Option.some.injEq, Prod.mk.injEq] at hs
    obtain ⟨rfl, rfl⟩ := hs
    have hv := (h.slice_).2.2 rfl
    subst hv
    have hc : CR w c.B (okb c.ok0 c.B O) (.sl 1 []) (.slice none 0 0) := .sl0 1 none 0 (Nat.zero_le _)
    exact ⟨O, hm, Tr.refl _ _ _ _ _, .one hc, .inr hc, fun _ _ h => h, fun _ _ h => h⟩
  | own k n lo hi =>
    simp only [settle, elems] at hs
    cases hl : lookO ob k with
    | none => rw [hl] at hs; cases hs
    | some es =>
      rw [hl] at hs
      simp only at hs
      split at hs
      · rename_i es' hes
        split at hes
        · rename_i hcond
          injection hes with hes
          subst hes
          split at hs
          · cases hs
          · rename_i hk7
            injection hs with hs
            simp only [Prod.mk.injEq] at hs
            obtain ⟨rfl, rfl⟩ := hs
            obtain ⟨hn, hlo, hhi⟩ := hcond
            obtain ⟨p, hO, hp, _, _, hv, ho⟩ := h.own_cur hm hl hn
            obtain ⟨hm', ht⟩ := hm.drop k
            obtain ⟨A, cp, rfl, hc1, hc2, hA, hfull⟩ := hv
            have hlen : ((es.take hi).drop lo).length = hi - lo := by simp; omega
            have hcr : CR w c.B (okb c.ok0 c.B (upd O k none)) (.sl (wholeP n lo hi) ((es.take hi).drop lo)) (.slice A (hi - lo) cp) := by
              by_cases h0 : lo < hi
              · obtain ⟨g, hg, rfl⟩ := hA h0
                obtain ⟨xs, hr, hcs⟩ := ho.row
                have hwid : ∀ e ∈ es.take hi, e.cells.length = p.sz := fun e he => ho.wid e (List.mem_of_mem_take he)
                have hfl : flat ((es.take hi).drop lo) = ((flat es).take (hi * p.sz)).drop (lo * p.sz) := by rw [flat_drop hwid, flat_take ho.wid]
                have hcs' := ((hcs.tr ht).take (hi * p.sz)).drop (lo * p.sz)
                rw [← hfl] at hcs'
                have hokg : okb c.ok0 c.B (upd O k none) g := by
                  refine ⟨fun hlt => ?_, fun j q hj hq => ?_⟩
                  · rcases hm.base k p g hO hg with h1 | ⟨h1, _⟩
                    · omega
                    · simp [h1] at hk7
                  · by_cases hjk : j = k
                    · subst hjk; rw [upd_same] at hj; cases hj
                    · rw [upd_other O _ hjk] at hj
                      exact hjk (hm.inj j k q p g hj hO hq hg)
                have hnew : c.B ≤ g := by
                  rcases hm.base k p g hO hg with h1 | ⟨h1, _⟩
                  · exact h1
                  · simp [h1] at hk7
                refine .sl _ _ ⟨g, lo * p.sz, none⟩ (hi - lo) cp p.sz _ hlen (by omega) hc1 hc2 (fun e he => ho.wid e (mem_take_drop he)) hokg (hm.lt hO hg) (fun h => by unfold wholeP at h; split at h <;> cases h) (fun _ => hnew) (fun h => ?_) hcs'.1 (fun j u hu => ?_) hcs'.2
                · unfold wholeP at h
                  split at h
                  · rename_i h01
                    obtain ⟨rfl, rfl⟩ := h01
                    have e := hfull rfl hp.symm
                    refine ⟨p.ty, ?_⟩
                    have hxl : xs.length = p.len * p.sz := hr.1
                    have hx : (xs.take (hi * p.sz)).drop (0 * p.sz) = xs := by rw [Nat.zero_mul, List.drop_zero]; exact List.take_of_length_le (by rw [hxl, hp]; exact Nat.le_refl _)
                    rw [hx, e]
                    have := hr
                    rw [hp] at this
                    exact this
                  · cases h
                rw [List.getElem?_drop, List.getElem?_take] at hu
                split at hu
                · have := hr.cells hg (lo * p.sz + j) u hu
                  rw [add_plain'] at this ⊢
                  simpa using this
                · cases hu
              · have h1 : hi - lo = 0 := by omega
                have h2 : (es.take hi).drop lo = [] := List.eq_nil_of_length_eq_zero (by omega)
                rw [h1, h2]
                exact .sl0 _ A cp hc2
            refine ⟨_, hm', ht, .one hcr, .inr hcr, fun j q hj => ?_, fun j es' hj => ?_⟩
            · by_cases hjk : j = k
              · subst hjk; rw [upd_same] at hj; cases hj
              · rw [upd_other O _ hjk] at hj; exact hj
            · rw [lookO_drop] at hj
              split at hj
              · cases hj
              · exact hj
        · cases hes
      · cases hs
  | _ => simp [settle] at hs

theorem run_indexAt {t e : TypeId} (ht : P.underlying t = some (.slice e)) {sz : Nat} (hsz : szOf P e = some sz) (ad : Addr) (len cap : Nat) (n : Int) (h0 : 0 ≤ n) (h1 : n < len) :
    (Instr.indexAt t (.slice (some ad) len cap) (.int .i64 n)).run P w = .ok (.pointer (some (ad.add (n.toNat * sz)))) w := by
  simp only [szOf, Option.map_eq_some_iff] at hsz
  obtain ⟨i, hi, rfl⟩ := hsz
  simp [Instr.indexAt, asIntOf, run_underlying ht, h0, h1, sizeOf, typeInfo, hi]

theorem out_idxa (hm : MR c O ob w) {x y : Operand} {t e : TypeId} (ho : o.op = .indexAddr t x y) (ht : P.underlying t = some (.slice e)) {sz : Nat} (hsz : szOf P e = some sz) {p : Nat} {es : List DV} {n : Int} {d : DV}
    (hx : VR w c.B (okb c.ok0 c.B O) O (.sl p es) (ρ x)) (hy : VR w c.B (okb c.ok0 c.B O) O (.i n) (ρ y)) (h0 : 0 ≤ n) (hd : es[n.toNat]? = some d) (hw : d.cells.length = sz) : Out P c fr w O ((execOp ρ o).run P w) (.adr d) ob := by
  have hlt : n.toNat < es.length := (List.getElem?_eq_some_iff.1 hd).1
  obtain ⟨ad, cap, sz', xs, hv, hc, _, hwid, hok, hblk, _, _, hcell, hcr⟩ := hx.sl'.sl' (by omega)
  have hs' : sz' = sz := by rw [← hw, hwid d (List.mem_of_getElem? hd)]
  subst hs'
  refine Out.same hm (v := .pointer (some (ad.add (n.toNat * sz')))) ?_ ?_
  · simp only [execOp, ho, hv, hy.int, Sem.run_bind, run_indexAt ht hsz ad es.length cap n h0 (by omega), Result.andThen_ok]; rfl
  · have hpart : d.cells = ((flat es).drop (n.toNat * sz')).take sz' := by
      apply List.ext_getElem?
      intro j
      rw [List.getElem?_take]
      by_cases hj : j < sz'
      · rw [if_pos hj, List.getElem?_drop, flat_get hwid hd hj]
      · rw [if_neg hj, List.getElem?_eq_none (by omega)]
    refine .adr d _ ((xs.drop (n.toNat * sz')).take sz') (by rw [block_add]; exact hok) (by rw [block_add]; exact hblk) (fun j u hu => ?_) ?_
    · rw [add_add']
      rw [List.getElem?_take] at hu
      split at hu
      · rw [List.getElem?_drop] at hu; exact hcell _ u hu
      · cases hu
    · rw [hpart]; exact (hcr.drop _).take _

theorem out_idxaO (hm : MR c O ob w) {x y : Operand} {t e : TypeId} (ho : o.op = .indexAddr t x y) (ht : P.underlying t = some (.slice e)) {sz : Nat} (hsz : szOf P e = some sz) {k m lo hi : Nat} {es : List DV} {n : Int}
    (hx : VR w c.B (okb c.ok0 c.B O) O (.own k m lo hi) (ρ x)) (hy : VR w c.B (okb c.ok0 c.B O) O (.i n) (ρ y)) (he : elems ob (.own k m lo hi) = some es) (hk : szId k = sz) (h0 : 0 ≤ n) (h1 : n < es.length) :
    Out P c fr w O ((execOp ρ o).run P w) (.oad k m (lo + n.toNat) 0) ob := by
  simp only [elems] at he
  cases hl : lookO ob k with
  | none => rw [hl] at he; cases he
  | some es0 =>
    rw [hl] at he
    simp only at he
    split at he
    · rename_i hcond
      injection he with he
      obtain ⟨hn, hlo, hhi⟩ := hcond
      obtain ⟨p, hO, hp, _, _, hv, hor⟩ := hx.own_cur hm hl hn
      have hlen : es.length = hi - lo := by rw [← he]; simp; omega
      obtain ⟨A, cp, hv, hc1, hc2, hA, _⟩ := hv
      obtain ⟨g, hg, rfl⟩ := hA (by omega)
      have hpsz : p.sz = sz := by rw [hm.sz k p hO, hk]
      refine Out.same hm (v := .pointer (some ((⟨g, lo * p.sz, none⟩ : Addr).add (n.toNat * sz)))) ?_ ?_
      · simp only [execOp, ho, hv, hy.int, Sem.run_bind, run_indexAt ht hsz _ (hi - lo) cp n h0 (by omega), Result.andThen_ok]; rfl
      · rw [add_plain', hpsz, ← Nat.add_mul]
        have := VR.oad (w := w) (B := c.B) (ok := okb c.ok0 c.B O) k m (lo + n.toNat) 0 p g hO hp hg
        rw [hpsz, Nat.add_zero] at this
        exact this
    · cases he

theorem run_indexAtA {t e : TypeId} {len : Nat} (ht : P.underlying t = some (.array len e)) {sz : Nat} (hsz : szOf P e = some sz) (ad : Addr) (n : Int) (h0 : 0 ≤ n) (h1 : n < len) :
    (Instr.indexAt t (.pointer (some ad)) (.int .i64 n)).run P w = .ok (.pointer (some (ad.add (n.toNat * sz)))) w := by
  simp only [szOf, Option.map_eq_some_iff] at hsz
  obtain ⟨i, hi, rfl⟩ := hsz
  simp [Instr.indexAt, asIntOf, run_underlying ht, h0, h1, sizeOf, typeInfo, hi, Instr.sureAddr]
theorem out_idxp (hm : MR c O ob w) {x y : Operand} {t e : TypeId} {len : Nat} (ho : o.op = .indexAddr t x y) (ht : P.underlying t = some (.array len e)) {sz : Nat} (hsz : szOf P e = some sz) {k m q r : Nat} {n : Int}
    (hx : VR w c.B (okb c.ok0 c.B O) O (.oad k m q r) (ρ x)) (hy : VR w c.B (okb c.ok0 c.B O) O (.i n) (ρ y)) (h0 : 0 ≤ n) (h1 : n < len) : Out P c fr w O ((execOp ρ o).run P w) (.oad k m q (r + n.toNat * sz)) ob := by
  obtain ⟨ad, hv, h⟩ := hx.oad'
  refine Out.same hm (v := .pointer (some (ad.add (n.toNat * sz)))) ?_ ?_
  · simp only [execOp, ho, hv, hy.int, Sem.run_bind, run_indexAtA ht hsz ad n h0 h1, Result.andThen_ok]; rfl
  · rcases h with ⟨p, g, hO, hn, hg, rfl⟩ | h
    · rw [add_plain', Nat.add_assoc]
      exact .oad k m q (r + n.toNat * sz) p g hO hn hg
    · exact .oadS k m q (r + n.toNat * sz) _ h
theorem out_mm (hm : MR c O ob w) {x y : Operand} {ts : Array TypeId} {mx : Bool} (ho : o.op = .call { callee := .builtin (if mx then .max else .min), args := #[x, y], argTypes := ts }) {a b : Int}
    (hx : VR w c.B (okb c.ok0 c.B O) O (.i a) (ρ x)) (hy : VR w c.B (okb c.ok0 c.B O) O (.i b) (ρ y)) : Out P c fr w O ((execOp ρ o).run P w) (.i (if mx then max a b else min a b)) ob := by
  refine Out.same hm (v := .int .i64 (if mx then max a b else min a b)) ?_ (.mkI _)
  cases mx with
  | true =>
    have e : (if b > a then b else a) = max a b := by split <;> omega
    simp [execOp, ho, resolve, invoke, builtin, Builtin.max_, Builtin.max2, hx.int, hy.int, e]
  | false =>
    have e : (if b < a then b else a) = min a b := by split <;> omega
    simp [execOp, ho, resolve, invoke, builtin, Builtin.min_, Builtin.min2, hx.int, hy.int, e]

theorem out_idx (hm : MR c O ob w) {x y : Operand} {t : TypeId} (ho : o.op = .index t x y) (ht : P.underlying t = some .string) {l : List UInt8} {n : Int} {b : UInt8}
    (hx : VR w c.B (okb c.ok0 c.B O) O (.s l) (ρ x)) (hy : VR w c.B (okb c.ok0 c.B O) O (.i n) (ρ y)) (h0 : 0 ≤ n) (hb : l[n.toNat]? = some b) : Out P c fr w O ((execOp ρ o).run P w) (.y b.toNat) ob := by
  have hlt : n.toNat < l.length := (List.getElem?_eq_some_iff.1 hb).1
  have hs : (ByteArray.mk l.toArray).size = l.length := by show l.toArray.size = _; simp
  refine Out.same hm (v := .int .u8 b.toNat) ?_ (.mkY _ (by exact b.toNat_lt))
  have hi : 0 ≤ n ∧ n < ((ByteArray.mk l.toArray).size : Int) := by rw [hs]; omega
  have hget : (ByteArray.mk l.toArray)[n.toNat]'(by omega) = b := by
    have : l[n.toNat] = b := (List.getElem?_eq_some_iff.1 hb).2
    rw [← this]
    rfl
  simp only [execOp, ho, hx.str, hy.int, Sem.run_bind, run_index_string w t _ .i64 n ht, dif_pos hi, Result.andThen_ok, hget]
  rfl

/-- An element of an object, cell by cell. -/
theorem OR.elem {B : Nat} {ok : Nat → Prop} {p : PO} {es : List DV} (h : OR w B ok p es) {a : Nat} {e : DV} (he : es[a]? = some e) {g : Nat} (hg : p.hv.ownBlock = some g) :
    ∃ xs : List Value, CRs w B ok e.cells xs ∧ (∀ (j : Nat) (u : Value), xs[j]? = some u → w.cell? ⟨g, a * p.sz + j, none⟩ = some u) := by
  obtain ⟨xs, hr, hc⟩ := h.row
  have hpart : e.cells = ((flat es).drop (a * p.sz)).take p.sz := by
    apply List.ext_getElem?
    intro j
    rw [List.getElem?_take]
    by_cases hj : j < p.sz
    · rw [if_pos hj, List.getElem?_drop, flat_get h.wid he hj]
    · have := h.wid e (List.mem_of_getElem? he)
      rw [if_neg hj, List.getElem?_eq_none (by omega)]
  refine ⟨(xs.drop (a * p.sz)).take p.sz, by rw [hpart]; exact (hc.drop _).take _, fun j u hu => ?_⟩
  rw [List.getElem?_take] at hu
  split at hu
  · rw [List.getElem?_drop] at hu
    have := hr.cells hg _ u hu
    rw [add_plain'] at this
    simpa using this
  · cases hu

theorem load_ok {t : TypeId} {sz : Nat} {agg : Bool} (hn : szOf P t = some sz) (hg : aggOf P t = some agg) (hone : agg = false → sz = 1) (ad : Addr) {d : DV} {xs : List Value}
    (hcell : ∀ (j : Nat) (u : Value), xs[j]? = some u → w.cell? (ad.add j) = some u) (hc : CRs w c.B (okb c.ok0 c.B O) d.cells xs) (h1 : agg = true → ∃ cs, d = .st cs ∧ cs.length = sz) (h2 : agg = false → d.cells = [d]) :
    ∃ v, (Instr.loadAt t (.pointer (some ad))).run P w = .ok v w ∧ VR w c.B (okb c.ok0 c.B O) O d v := by
  cases agg with
  | true =>
    obtain ⟨cs, rfl, hcs⟩ := h1 rfl
    have hl : xs.length = sz := by rw [hc.1]; exact hcs
    exact ⟨.agg xs.toArray, run_load_agg t sz hg hn ad xs hl hcell, .st _ _ (by simpa [DV.cells] using hc)⟩
  | false =>
    rw [h2 rfl] at hc
    obtain ⟨u, hu, hcr⟩ := hc.get (j := 0) rfl
    exact ⟨u, run_load_one t hg ad u (by simpa [Addr.add] using hcell 0 u hu), .cr _ _ hcr⟩

theorem out_load (hm : MR c O ob w) {x : Operand} {t : TypeId} (ho : o.op = .load t x) {sz : Nat} {agg : Bool} (hn : szOf P t = some sz) (hg : aggOf P t = some agg) (hone : agg = false → sz = 1) {d : DV}
    (he : (match d with | .st cs => if agg && cs.length == sz then some d else none | _ => if agg then none else some d) = some d) (hx : VR w c.B (okb c.ok0 c.B O) O (.adr d) (ρ x)) : Out P c fr w O ((execOp ρ o).run P w) d ob := by
  obtain ⟨ad, xs, hv, _, _, hcell, hc⟩ := hx.adr'
  obtain ⟨v, hr, hvr⟩ := load_ok (c := c) (O := O) hn hg hone ad hcell hc (fun ha => by
    subst ha
    cases d <;> simp at he
    exact ⟨_, rfl, he⟩) (fun ha => by
    subst ha
    cases d <;> simp at he <;> rfl)
  refine Out.same hm (v := v) ?_ hvr
  simp only [execOp, ho, hv, Sem.run_bind, hr, Result.andThen_ok]; rfl

theorem out_loadO (hm : MR c O ob w) {x : Operand} {t : TypeId} (ho : o.op = .load t x) {sz : Nat} {agg : Bool} (hn : szOf P t = some sz) (hg : aggOf P t = some agg) (hone : agg = false → sz = 1) {k n a q : Nat} {es : List DV} {e d : DV}
    (hx : VR w c.B (okb c.ok0 c.B O) O (.oad k n a q) (ρ x)) (hl : lookO ob k = some es) (hnl : es.length = n) (he : es[a]? = some e) (hp : part e.cells q sz agg = some d) : Out P c fr w O ((execOp ρ o).run P w) d ob := by
  obtain ⟨p, g, hO, hpl, hgb, hv, hor⟩ := hx.oad_cur hm hl hnl
  obtain ⟨xs, hcr, hcell⟩ := hor.elem he hgb
  obtain ⟨h1, h2, h3⟩ := part_ok hcr hp hone
  obtain ⟨v, hr, hvr⟩ := load_ok (c := c) (O := O) hn hg hone ⟨g, a * p.sz + q, none⟩ (d := d) (xs := (xs.drop q).take sz) (fun j u hu => by
    rw [List.getElem?_take] at hu
    split at hu
    · rw [List.getElem?_drop] at hu
      rw [add_plain', Nat.add_assoc]
      exact hcell _ u hu
    · cases hu) h1 (fun ha => by
      obtain ⟨cs, rfl⟩ := h2 ha
      subst ha
      unfold part at hp
      simp only [if_true] at hp
      split at hp
      · injection hp with hp
        injection hp with hp
        exact ⟨cs, rfl, by rw [← hp]; simp; omega⟩
      · cases hp) h3
  refine Out.same hm (v := v) ?_ hvr
  simp only [execOp, ho, hv, Sem.run_bind, hr, Result.andThen_ok]; rfl
end
end Go.Lg
