/- Part 7 of a logical reading of translated Go: what a frame holds is said by lists, and each operation is proved against the model. No conditions. -/
import Derived.Test.YtadlmpjlkfbnfacLg6
namespace Go.Lg
open Go.RowKit
set_option linter.unusedVariables false

theorem flat_nil : flat [] = [] := rfl
theorem flat_cons (e : DV) (es : List DV) : flat (e :: es) = e.cells ++ flat es := rfl
theorem flat_append (a b : List DV) : flat (a ++ b) = flat a ++ flat b := by simp [flat]
theorem flat_len {sz : Nat} : ∀ {es : List DV}, (∀ e ∈ es, e.cells.length = sz) → (flat es).length = es.length * sz
  | [], _ => by simp [flat]
  | e :: es, h => by
    rw [flat_cons, List.length_append, h e (List.mem_cons_self ..), flat_len (fun x hx => h x (List.mem_cons_of_mem _ hx)), List.length_cons, Nat.add_mul]
    omega
theorem flat_get {sz : Nat} : ∀ {es : List DV}, (∀ e ∈ es, e.cells.length = sz) → ∀ {i : Nat} {e : DV}, es[i]? = some e → ∀ {j : Nat}, j < sz → (flat es)[i * sz + j]? = e.cells[j]?
  | [], _, _, _, he, _, _ => by simp at he
  | x :: es, h, 0, e, he, j, hj => by
    simp at he
    subst he
    rw [flat_cons, List.getElem?_append_left (by rw [h x (List.mem_cons_self ..)]; omega)]
    simp
  | x :: es, h, i + 1, e, he, j, hj => by
    simp at he
    rw [flat_cons, List.getElem?_append_right (by rw [h x (List.mem_cons_self ..), Nat.add_mul]; omega), h x (List.mem_cons_self ..)]
    rw [show (i + 1) * sz + j - sz = i * sz + j by rw [Nat.add_mul]; omega]
    exact flat_get (fun y hy => h y (List.mem_cons_of_mem _ hy)) he hj
theorem flat_take {sz : Nat} : ∀ {es : List DV}, (∀ e ∈ es, e.cells.length = sz) → ∀ (k : Nat), flat (es.take k) = (flat es).take (k * sz)
  | [], _, k => by simp [flat]
  | x :: es, h, 0 => by simp [flat]
  | x :: es, h, k + 1 => by
    have hx := h x (List.mem_cons_self ..)
    have e1 : (x.cells ++ flat es).take ((k + 1) * sz) = x.cells ++ (flat es).take (k * sz) := by
      rw [List.take_append, List.take_of_length_le (l := x.cells) (by rw [hx, Nat.add_mul]; omega), hx, show (k + 1) * sz - sz = k * sz by rw [Nat.add_mul]; omega]
    rw [List.take_succ_cons, flat_cons, flat_cons, flat_take (fun y hy => h y (List.mem_cons_of_mem _ hy)) k, e1]
theorem flat_drop {sz : Nat} : ∀ {es : List DV}, (∀ e ∈ es, e.cells.length = sz) → ∀ (k : Nat), flat (es.drop k) = (flat es).drop (k * sz)
  | [], _, k => by simp [flat]
  | x :: es, h, 0 => by simp [flat]
  | x :: es, h, k + 1 => by
    have hx := h x (List.mem_cons_self ..)
    have e1 : (x.cells ++ flat es).drop ((k + 1) * sz) = (flat es).drop (k * sz) := by
      rw [List.drop_append, List.drop_of_length_le (l := x.cells) (by rw [hx, Nat.add_mul]; omega), hx, show (k + 1) * sz - sz = k * sz by rw [Nat.add_mul]; omega]
      rfl
    rw [List.drop_succ_cons, flat_cons, flat_drop (fun y hy => h y (List.mem_cons_of_mem _ hy)) k, e1]
theorem flat_set {sz : Nat} {es : List DV} (h : ∀ e ∈ es, e.cells.length = sz) {a : Nat} (ha : a < es.length) (x : DV) (hx : x.cells.length = sz) :
    flat (es.set a x) = (flat es).take (a * sz) ++ x.cells ++ (flat es).drop (a * sz + sz) := by
  have e1 : es.set a x = es.take a ++ x :: es.drop (a + 1) := by rw [List.set_eq_take_append_cons_drop, if_pos ha]
  rw [e1, flat_append, flat_cons, flat_take h, flat_drop h, Nat.add_mul, Nat.one_mul, List.append_assoc]

section
variable {w : World} {B : Nat} {ok : Nat → Prop}
theorem CRs.nil_ : CRs w B ok [] [] := ⟨rfl, by simp⟩
theorem CRs.append {a b : List DV} {xs ys : List Value} (h : CRs w B ok a xs) (k : CRs w B ok b ys) : CRs w B ok (a ++ b) (xs ++ ys) := by
  refine ⟨by simp [h.1, k.1], fun j c u hc hu => ?_⟩
  by_cases hj : j < a.length
  · rw [List.getElem?_append_left hj] at hc
    rw [List.getElem?_append_left (by rw [h.1]; exact hj)] at hu
    exact h.2 j c u hc hu
  · rw [List.getElem?_append_right (by omega)] at hc
    rw [List.getElem?_append_right (by rw [h.1]; omega), h.1] at hu
    exact k.2 _ c u hc hu
theorem CRs.take {a : List DV} {xs : List Value} (h : CRs w B ok a xs) (k : Nat) : CRs w B ok (a.take k) (xs.take k) := by
  refine ⟨by simp [h.1], fun j c u hc hu => ?_⟩
  rw [List.getElem?_take] at hc hu
  split at hc
  · rename_i hj; rw [if_pos hj] at hu; exact h.2 j c u hc hu
  · cases hc
theorem CRs.drop {a : List DV} {xs : List Value} (h : CRs w B ok a xs) (k : Nat) : CRs w B ok (a.drop k) (xs.drop k) := by
  refine ⟨by simp [h.1], fun j c u hc hu => ?_⟩
  rw [List.getElem?_drop] at hc hu
  exact h.2 _ c u hc hu
theorem CRs.one {d : DV} {v : Value} (h : CR w B ok d v) : CRs w B ok [d] [v] := by
  refine ⟨rfl, fun j c u hc hu => ?_⟩
  cases j with
  | zero => simp at hc hu; subst hc; subst hu; exact h
  | succ j => simp at hc
theorem CRs.get {a : List DV} {xs : List Value} (h : CRs w B ok a xs) {j : Nat} {c : DV} (hc : a[j]? = some c) : ∃ u, xs[j]? = some u ∧ CR w B ok c u := by
  have hj : j < a.length := (List.getElem?_eq_some_iff.1 hc).1
  have hx : j < xs.length := by rw [h.1]; exact hj
  exact ⟨xs[j], List.getElem?_eq_getElem hx, h.2 j c _ hc (List.getElem?_eq_getElem hx)⟩
theorem CRs.oneCell {a : List DV} {xs : List Value} (h : CRs w B ok a xs) : ∀ u ∈ xs, u.oneCell' = true := by
  intro u hu
  obtain ⟨j, hj, rfl⟩ := List.getElem_of_mem hu
  have hja : j < a.length := by rw [← h.1]; exact hj
  exact (h.2 j _ _ (List.getElem?_eq_getElem hja) (List.getElem?_eq_getElem hj)).oneCell

theorem block_add (a : Addr) (n : Nat) : (a.add n).block = a.block := by unfold Addr.add; split <;> rfl
theorem add_add' (a : Addr) (i j : Nat) : (a.add i).add j = a.add (i + j) := Go.Deep.add_add a i j
theorem add_plain' (g o n : Nat) : (⟨g, o, none⟩ : Addr).add n = ⟨g, o + n, none⟩ := by
  unfold Addr.add
  split
  · rename_i h; rw [h]; rfl
  · rfl

/-- A part of cells that are said. -/
theorem part_ok {cs : List DV} {xs : List Value} (h : CRs w B ok cs xs) {off sz : Nat} {agg : Bool} {e : DV} (hp : part cs off sz agg = some e) (hsz : agg = false → sz = 1) :
    CRs w B ok e.cells ((xs.drop off).take sz) ∧ (agg = true → ∃ cs', e = .st cs') ∧ (agg = false → e.cells = [e]) := by
  unfold part at hp
  cases agg with
  | true =>
    simp only [if_true] at hp
    split at hp
    · injection hp with hp
      subst hp
      exact ⟨(h.drop off).take sz, fun _ => ⟨_, rfl⟩, (fun h => by cases h)⟩
    · cases hp
  | false =>
    simp only [Bool.false_eq_true, if_false] at hp
    have h1 := hsz rfl
    subst h1
    obtain ⟨u, hu, hc⟩ := h.get hp
    have hcell := hc.cells.1
    refine ⟨?_, (fun h => by cases h), fun _ => hcell⟩
    rw [hcell]
    have : (xs.drop off).take 1 = [u] := by
      have hlt : off < xs.length := (List.getElem?_eq_some_iff.1 hu).1
      rw [List.drop_eq_getElem_cons hlt]
      have : xs[off] = u := (List.getElem?_eq_some_iff.1 hu).2
      simp [this]
    rw [this]
    exact .one hc
end

section
variable {P : Program} {c : Cx} {fr : Nat → Bool} {w : World} {O : OM} {ob : OB} {o : Oper} {ρ : Operand → Value}

theorem out_bin (hm : MR c O ob w) {op : BinOp} {t yt : TypeId} {x y : Operand} (ho : o.op = .binOp op t x y yt) {dx dy d : DV} (hx : VR w c.B (okb c.ok0 c.B O) O dx (ρ x)) (hy : VR w c.B (okb c.ok0 c.B O) O dy (ρ y))
    (he : binD op dx dy = some d) : Out P c fr w O ((execOp ρ o).run P w) d ob := by
  have key : ∃ v, (binOp op t (ρ x) (ρ y)).run P w = .ok v w ∧ VR w c.B (okb c.ok0 c.B O) O d v ∧ (∀ cs ds, ¬ (ρ x = .agg cs ∧ ρ y = .agg ds)) ∧ ρ x ≠ .nilIface := by
    unfold binD at he
    split at he
    · rename_i a b; rw [hx.int, hy.int]; obtain ⟨v, h1, h2⟩ := run_bin_int (P := P) op t a b he; exact ⟨v, h1, h2, by simp, by simp⟩
    · rename_i a b; rw [hx.byte, hy.byte]; obtain ⟨v, h1, h2⟩ := run_bin_byte (P := P) op t a b he; exact ⟨v, h1, h2, by simp, by simp⟩
    · rename_i a b; rw [hx.str, hy.str]; obtain ⟨v, h1, h2⟩ := run_bin_str (P := P) op t a b he; exact ⟨v, h1, h2, by simp, by simp⟩
    · cases he
  obtain ⟨v, h1, h2, h3, h4⟩ := key
  refine Out.same hm (v := v) ?_ h2
  simp only [execOp, ho, Sem.run_bind, run_eqGuard_plain op t x y _ _ h3 h4, Result.andThen_ok, h1]
  rfl

theorem out_un (hm : MR c O ob w) {op : UnOp} {t : TypeId} {x : Operand} (ho : o.op = .unOp op t x) {dx d : DV} (hx : VR w c.B (okb c.ok0 c.B O) O dx (ρ x))
    (he : unD op dx = some d) : Out P c fr w O ((execOp ρ o).run P w) d ob := by
  unfold unD at he
  split at he
  · injection he with he; subst he
    refine Out.same hm (v := .bool _) ?_ (.mkB _)
    simp only [execOp, ho, hx.bool]; rfl
  · injection he with he; subst he
    refine Out.same hm (v := .int .i64 _) ?_ (.mkI _)
    simp only [execOp, ho, hx.int]; rfl
  · cases he

theorem run_equal_bool (t : TypeId) (ht : P.underlying t = some .bool) (a b : Bool) : (Op.equal t (.bool a) (.bool b)).run P w = .ok (a == b) w := by
  have h : ∀ d : Nat, (Op.equalIn (d + 1) t (.bool a) (.bool b)).run P w = .ok (a == b) w := fun d => by
    simp [Op.equalIn, run_underlying ht]
  exact h 9999

theorem out_eqb (hm : MR c O ob w) {op : BinOp} {t yt : TypeId} {x y : Operand} (ho : o.op = .binOp op t x y yt) {g : Bool} (hop : op = if g then .neq else .eql) (ht : P.underlying t = some .bool) {a b : Bool}
    (hx : VR w c.B (okb c.ok0 c.B O) O (.b a) (ρ x)) (hy : VR w c.B (okb c.ok0 c.B O) O (.b b) (ρ y)) : Out P c fr w O ((execOp ρ o).run P w) (.b (xor g (a == b))) ob := by
  refine Out.same hm (v := .bool (xor g (a == b))) ?_ (.mkB _)
  subst hop
  cases g <;> simp [execOp, ho, run_eqGuard_plain _ t x y (.bool a) (.bool b), hx.bool, hy.bool, binOp, run_equal_bool t ht]

theorem VR.slice_ {d : DV} {v : Value} (h : VR w c.B (okb c.ok0 c.B O) O d v) : (∀ p es, d = .sl p es → ∃ A cap, v = .slice A es.length cap) ∧ (∀ k n lo hi, d = .own k n lo hi → ∃ A cap, v = .slice A (hi - lo) cap) ∧ (d = .nil → v = .slice none 0 0) := by
  refine ⟨fun p es he => ?_, fun k n lo hi he => ?_, fun he => ?_⟩
  · subst he
    cases h with | cr _ _ h => cases h with
      | sl0 => exact ⟨_, _, rfl⟩
      | sl _ _ ad n cap sz xs hn => subst hn; exact ⟨_, _, rfl⟩
  · subst he
    cases h with
    | cr _ _ h => cases h
    | own _ _ _ _ p _ hO hn h1 h2 hv => obtain ⟨A, c', rfl, _⟩ := hv; exact ⟨_, _, rfl⟩
    | ownS => exact ⟨_, _, rfl⟩
  · subst he
    cases h with
    | cr _ _ h => cases h
    | nil => rfl

theorem out_len (hm : MR c O ob w) {x : Operand} {t e : TypeId} (ho : o.op = .call { callee := .builtin .len, args := #[x], argTypes := #[t] }) (ht : P.underlying t = some (.slice e)) {n : Nat} {A : Option Addr} {cap : Nat}
    (hx : ρ x = .slice A n cap) : Out P c fr w O ((execOp ρ o).run P w) (.i n) ob := by
  refine Out.same hm (v := .int .i64 n) ?_ (.mkI _)
  simp [execOp, ho, resolve, invoke, builtin, Builtin.len_, run_underlying ht, hx, goInt]
theorem out_lens (hm : MR c O ob w) {x : Operand} {t : TypeId} (ho : o.op = .call { callee := .builtin .len, args := #[x], argTypes := #[t] }) (ht : P.underlying t = some .string) {l : List UInt8}
    (hx : VR w c.B (okb c.ok0 c.B O) O (.s l) (ρ x)) : Out P c fr w O ((execOp ρ o).run P w) (.i l.length) ob := by
  refine Out.same hm (v := .int .i64 l.length) ?_ (.mkI _)
  have hs : (ByteArray.mk l.toArray).size = l.length := by show l.toArray.size = _; simp
  simp [execOp, ho, resolve, invoke, builtin, Builtin.len_, run_underlying ht, hx.str, goInt, hs]

theorem VR.adr' {d : DV} {v : Value} (h : VR w c.B (okb c.ok0 c.B O) O (.adr d) v) : ∃ ad xs, v = .pointer (some ad) ∧ okb c.ok0 c.B O ad.block ∧ ad.block < w.heap.size ∧ (∀ (j : Nat) (u : Value), xs[j]? = some u → w.cell? (ad.add j) = some u) ∧ CRs w c.B (okb c.ok0 c.B O) d.cells xs := by
  cases h with
  | cr _ _ h => cases h
  | adr _ ad xs h1 h2 h3 h4 => exact ⟨ad, xs, rfl, h1, h2, h3, h4⟩
theorem VR.oad' {k n a q : Nat} {v : Value} (h : VR w c.B (okb c.ok0 c.B O) O (.oad k n a q) v) :
    ∃ ad, v = .pointer (some ad) ∧ ((∃ p g, O k = some p ∧ p.len = n ∧ p.hv.ownBlock = some g ∧ ad = ⟨g, a * p.sz + q, none⟩) ∨ ∀ p, O k = some p → n < p.len) := by
  cases h with
  | cr _ _ h => cases h
  | oad _ _ _ _ p g hO hn hg => exact ⟨_, rfl, .inl ⟨p, g, hO, hn, hg, rfl⟩⟩
  | oadS _ _ _ _ ad hO => exact ⟨ad, rfl, .inr hO⟩

theorem out_chk (hm : MR c O ob w) {x : Operand} (ho : o.op = .nilCheck x) {d : DV} (hx : VR w c.B (okb c.ok0 c.B O) O d (ρ x)) (hp : ∃ ad, ρ x = .pointer (some ad)) : Out P c fr w O ((execOp ρ o).run P w) d ob := by
  obtain ⟨ad, hp⟩ := hp
  refine Out.same hm (v := ρ x) ?_ hx
  simp only [execOp, ho, hp]
  rfl

theorem run_fieldAt {t : TypeId} {f off sz : Nat} {agg : Bool} (hf : fieldOf P t f = some (off, sz, agg)) (ad : Addr) : (Instr.fieldAt t (.pointer (some ad)) f).run P w = .ok (.pointer (some (ad.add off))) w := by
  unfold fieldOf at hf
  split at hf
  · rename_i fs hu
    split at hf
    · rename_i x hx
      split at hf
      · rename_i n g hn hg
        split at hf
        · rename_i hpos
          injection hf with hf
          simp only [Prod.mk.injEq] at hf
          obtain ⟨rfl, rfl, rfl⟩ := hf
          simp only [szOf, Option.map_eq_some_iff] at hn
          obtain ⟨i, hi, hin⟩ := hn
          have hne : ¬ i.size = 0 := by omega
          simp [Instr.fieldAt, run_underlying hu, hx, Instr.sureAddr, fieldPlace, sizeOf, typeInfo, hi, hne]
        · cases hf
      · cases hf
    · cases hf
  · cases hf

theorem agg_one {t : TypeId} (h : aggOf P t = some false) : True := trivial

theorem out_fld (hm : MR c O ob w) {x : Operand} {t : TypeId} {f : Nat} (ho : o.op = .fieldAddr t x f) {off sz : Nat} {agg : Bool} (hf : fieldOf P t f = some (off, sz, agg)) (hone : agg = false → sz = 1) {d e : DV}
    (hx : VR w c.B (okb c.ok0 c.B O) O (.adr d) (ρ x)) (he : part d.cells off sz agg = some e) : Out P c fr w O ((execOp ρ o).run P w) (.adr e) ob := by
  obtain ⟨ad, xs, hv, h1, h2, h3, h4⟩ := hx.adr'
  refine Out.same hm (v := .pointer (some (ad.add off))) ?_ ?_
  · simp only [execOp, ho, hv, Sem.run_bind, run_fieldAt hf, Result.andThen_ok]; rfl
  · obtain ⟨h5, _, _⟩ := part_ok h4 he hone
    refine .adr e _ _ (by rw [block_add]; exact h1) (by rw [block_add]; exact h2) (fun j u hu => ?_) h5
    rw [add_add']
    rw [List.getElem?_take] at hu
    split at hu
    · rw [List.getElem?_drop] at hu; exact h3 _ u hu
    · cases hu
theorem out_fldO (hm : MR c O ob w) {x : Operand} {t : TypeId} {f : Nat} (ho : o.op = .fieldAddr t x f) {off sz : Nat} {agg : Bool} (hf : fieldOf P t f = some (off, sz, agg)) {k n a q : Nat}
    (hx : VR w c.B (okb c.ok0 c.B O) O (.oad k n a q) (ρ x)) : Out P c fr w O ((execOp ρ o).run P w) (.oad k n a (q + off)) ob := by
  obtain ⟨ad, hv, h⟩ := hx.oad'
  refine Out.same hm (v := .pointer (some (ad.add off))) ?_ ?_
  · simp only [execOp, ho, hv, Sem.run_bind, run_fieldAt hf, Result.andThen_ok]; rfl
  · rcases h with ⟨p, g, hO, hn, hg, rfl⟩ | h
    · rw [add_plain', Nat.add_assoc]
      exact .oad k n a (q + off) p g hO hn hg
    · exact .oadS k n a (q + off) _ h

theorem run_part {t : TypeId} {off sz : Nat} {agg : Bool} (hn : szOf P t = some sz) (hg : aggOf P t = some agg) (cs : List DV) (xs : Array Value) {e : DV} {B : Nat} {ok : Nat → Prop} (h : CRs w B ok cs xs.toList)
    (he : part cs off sz agg = some e) (hone : agg = false → sz = 1) :
    ∃ v, (Go.part t xs off).run P w = .ok v w ∧ ((∃ cs', e = .st cs' ∧ ∃ vs : Array Value, v = .agg vs ∧ CRs w B ok cs' vs.toList) ∨ CR w B ok e v) := by
  obtain ⟨h1, h2, h3⟩ := part_ok h he hone
  simp only [szOf, Option.map_eq_some_iff] at hn
  obtain ⟨i, hi, rfl⟩ := hn
  cases agg with
  | true =>
    have hagg : (isAgg t).run P w = .ok true w := by
      unfold aggOf at hg
      unfold isAgg
      split at hg
      · rename_i fs hu; simp [run_underlying hu]
      · rename_i k e hu; simp [run_underlying hu]
      · simp at hg
      · cases hg
    obtain ⟨cs', rfl⟩ := h2 rfl
    refine ⟨.agg (xs.extract off (off + i.size)), by simp [Go.part, hagg, sizeOf, typeInfo, hi], .inl ⟨cs', rfl, _, rfl, ?_⟩⟩
    have : (xs.extract off (off + i.size)).toList = (xs.toList.drop off).take i.size := by
      rw [Array.toList_extract, List.extract_eq_take_drop]
      congr 1
      omega
    rw [this]
    exact h1
  | false =>
    have hagg : (isAgg t).run P w = .ok false w := by
      unfold aggOf at hg
      unfold isAgg
      split at hg
      · simp at hg
      · simp at hg
      · rename_i d h1 h2 hu
        simp only [run_underlying hu, Sem.run_bind, Result.andThen_ok]; rfl
      · cases hg
    unfold Go.Lg.part at he
    simp only [Bool.false_eq_true, if_false] at he
    obtain ⟨u, hu, hc⟩ := h.get he
    refine ⟨u, ?_, .inr hc⟩
    have hu' : xs[off]? = some u := by simpa using hu
    simp [Go.part, hagg, hu']

theorem out_fldv (hm : MR c O ob w) {x : Operand} {t : TypeId} {f : Nat} (ho : o.op = .field t x f) {off sz : Nat} {agg : Bool} (hf : fieldOf P t f = some (off, sz, agg)) (hone : agg = false → sz = 1) {cs : List DV} {e : DV}
    (hx : VR w c.B (okb c.ok0 c.B O) O (.st cs) (ρ x)) (he : part cs off sz agg = some e) : Out P c fr w O ((execOp ρ o).run P w) e ob := by
  obtain ⟨vs, hv, hc⟩ := hx.st'
  unfold fieldOf at hf
  split at hf
  · rename_i fs hu
    split at hf
    · rename_i y hy
      split at hf
      · rename_i n g hn hg
        split at hf
        · injection hf with hf
          simp only [Prod.mk.injEq] at hf
          obtain ⟨rfl, rfl, rfl⟩ := hf
          obtain ⟨v, hr, hor⟩ := run_part (P := P) hn hg cs vs hc he hone
          refine Out.same hm (v := v) ?_ ?_
          · simp [execOp, ho, hv, Instr.field, run_underlying hu, hy, asAgg, hr]
          · rcases hor with ⟨cs', rfl, us, rfl, h⟩ | h
            · exact .st _ _ h
            · exact .cr _ _ h
        · cases hf
      · cases hf
    · cases hf
  · cases hf
end
end Go.Lg
