/- Part 9 of a logical reading of translated Go: what a frame holds is said by lists, and each operation is proved against the model. No conditions. -/
import Derived.Test.YtadlmpjlkfbnfacLg8
namespace Go.Lg
open Go.RowKit
set_option linter.unusedVariables false

theorem list_over {α : Type} (l : List α) (o s q m : Nat) (vs : List α) (hs : s ≤ l.length - o) (ho : o ≤ l.length) (hq : q + vs.length ≤ s) :
    l.take o ++ (((l.drop o).take s).take q ++ vs ++ ((l.drop o).take s).drop (q + vs.length)) ++ l.drop (o + s) = l.take (o + q) ++ vs ++ l.drop (o + q + vs.length) := by
  have e1 : ((l.drop o).take s).take q = (l.drop o).take q := by rw [List.take_take]; congr 1; omega
  have e2 : l.take (o + q) = l.take o ++ (l.drop o).take q := by rw [List.take_add]
  have e3 : ((l.drop o).take s).drop (q + vs.length) ++ l.drop (o + s) = l.drop (o + q + vs.length) := by
    rw [List.drop_take, List.drop_drop]
    have : l.drop (o + q + vs.length) = (l.drop (o + (q + vs.length))).take (s - (q + vs.length)) ++ (l.drop (o + (q + vs.length))).drop (s - (q + vs.length)) := by
      rw [List.take_append_drop]; congr 1; omega
    rw [this, List.drop_drop]
    congr 2
    omega
  rw [e1, e2, ← e3]
  simp only [List.append_assoc]

theorem list_take_over {α : Type} (cur vs : List α) (o N : Nat) (hN : o + vs.length ≤ N) (hc : N ≤ cur.length) :
    (cur.take o ++ vs ++ cur.drop (o + vs.length)).take N = (cur.take N).take o ++ vs ++ (cur.take N).drop (o + vs.length) := by
  have h1 : (cur.take o ++ vs).length = o + vs.length := by simp; omega
  rw [List.take_append, List.take_of_length_le (by omega), h1, List.take_take, List.drop_take]
  congr 2
  · congr 1; congr 1; omega

section
variable {P : Program} {c : Cx} {fr : Nat → Bool} {w : World} {O : OM} {ob : OB} {o : Oper} {ρ : Operand → Value}

theorem unpart_ok {B : Nat} {ok : Nat → Prop} {e : DV} {cs : List DV} {xs : List Value} (h : CRs w B ok cs xs) (hl : cs.length = e.cells.length) : (unpart e cs).cells = cs := by
  cases e with
  | st as => rfl
  | _ =>
    simp only [DV.cells, List.length_singleton] at hl
    match cs, hl with
    | [d], _ =>
      obtain ⟨u, _, hc⟩ := h.get (j := 0) rfl
      exact hc.cells.1

theorem out_store (hm : MR c O ob w) {x y : Operand} {t : TypeId} (ho : o.op = .store t x y) {sz : Nat} (hn : szOf P t = some sz) {k n a q : Nat} {d d' e : DV} {ob1 : OB} {es : List DV}
    (hx : VR w c.B (okb c.ok0 c.B O) O (.oad k n a q) (ρ x)) (hy : VR w c.B (okb c.ok0 c.B O) O d (ρ y)) (hs : settle ob d = some (d', ob1)) (hl : lookO ob1 k = some es) (hnl : es.length = n) (hds : d'.cells.length = sz)
    (he : es[a]? = some e) (hq : q + sz ≤ e.cells.length) : Out P c fr w O ((execOp ρ o).run P w) .dead (putO ob1 k (es.set a (unpart e (over e.cells q d'.cells)))) := by
  obtain ⟨O1, hm1, ht1, hcr, _, _, _⟩ := settle_ok hm hy hs
  have hx1 := hx.tr ht1 (fun _ h => h.elim)
  obtain ⟨p, g, hO, hpl, hgb, hv, hor⟩ := hx1.oad_cur hm1 hl hnl
  obtain ⟨xs, hr, hcs⟩ := hor.row
  obtain ⟨hxl, hrest⟩ := hr
  rcases hrest with ⟨hnil, _⟩ | ⟨g', cap, cur, hhv, _, hheap, hnc, hcm, hcsz, htake⟩
  · rw [hnil] at hgb; simp [Value.ownBlock] at hgb
  · have hgg : g' = g := by rw [hhv] at hgb; simpa [Value.ownBlock] using hgb
    subst hgg
    have ha : a < es.length := (List.getElem?_eq_some_iff.1 he).1
    have hewid : e.cells.length = p.sz := hor.wid e (List.mem_of_getElem? he)
    have hnews : (ρ y).cells.toList.length = sz := by rw [hcr.1, hds]
    have hmul : a * p.sz + p.sz ≤ p.len * p.sz := by
      rw [← Nat.succ_mul]; exact Nat.mul_le_mul_right _ (by rw [hor.len]; omega)
    have hcurl : p.len * p.sz ≤ cur.size := by rw [hcsz]; exact Nat.mul_le_mul_right _ hnc
    have hst := run_storeCells_at (P := P) g' (a * p.sz + q) p.ty (ρ y).cells.toList 0 cur w hheap (by omega) hcr.oneCell
    simp only [Nat.add_zero] at hst
    generalize hrow : (cur.toList.take (a * p.sz + q) ++ (ρ y).cells.toList ++ cur.toList.drop (a * p.sz + q + (ρ y).cells.toList.length)).toArray = row at hst
    refine ⟨undef, w.setRow g' row, upd O1 k (some p), .inr ⟨?_, rfl⟩, ?_⟩
    · simp only [szOf, Option.map_eq_some_iff] at hn
      obtain ⟨i, hi, rfl⟩ := hn
      have hsize : ¬ (ρ y).cells.size ≠ i.size := by
        have : (ρ y).cells.size = (ρ y).cells.toList.length := by simp
        omega
      simp only [execOp, ho, hv, Instr.storeAt, Instr.sureAddr, storeVar, Sem.run_bind, Sem.run_pure, Result.andThen_ok, sizeOf, typeInfo, run_program, hi, hsize, if_false, hst]
    · have hor' : ∀ ok : Nat → Prop, (∀ b, b < w.heap.size → okb c.ok0 c.B O1 b → ok b) → (∀ (cs : List DV) (xs : List Value), CRs w c.B (okb c.ok0 c.B O1) cs xs → CRs (w.setRow g' row) c.B ok cs xs) →
          OR (w.setRow g' row) c.B ok p (es.set a (unpart e (over e.cells q d'.cells))) := by
        intro ok hok hkeep
        have helem : e.cells = ((flat es).drop (a * p.sz)).take p.sz := by
          apply List.ext_getElem?
          intro j
          rw [List.getElem?_take]
          by_cases hj : j < p.sz
          · rw [if_pos hj, List.getElem?_drop, flat_get hor.wid he hj]
          · rw [if_neg hj, List.getElem?_eq_none (by omega)]
        have hfl := flat_len hor.wid
        have hover : CRs w c.B (okb c.ok0 c.B O1) (over e.cells q d'.cells) (((xs.drop (a * p.sz)).take p.sz).take q ++ (ρ y).cells.toList ++ ((xs.drop (a * p.sz)).take p.sz).drop (q + (ρ y).cells.toList.length)) := by
          unfold over
          rw [helem]
          refine ((((hcs.drop _).take _).take _).append hcr).append ?_
          rw [hcr.1]
          exact ((hcs.drop _).take _).drop _
        have hol : (over e.cells q d'.cells).length = e.cells.length := by unfold over; simp; omega
        have hun := unpart_ok (e := e) hover hol
        have hwid' : ∀ z ∈ es.set a (unpart e (over e.cells q d'.cells)), z.cells.length = p.sz := by
          intro z hz
          rcases List.mem_or_eq_of_mem_set hz with h | h
          · exact hor.wid z h
          · rw [h, hun, hol, hewid]
        refine ⟨by rw [hor.len]; simp, hor.pos, hwid', xs.take (a * p.sz + q) ++ (ρ y).cells.toList ++ xs.drop (a * p.sz + q + (ρ y).cells.toList.length), ⟨?_, .inr ⟨g', cap, _, hhv, Nat.zero_le _, setRow_heap w g' cur _ p.ty _ hheap, hnc, hcm, ?_, ?_⟩⟩, ?_⟩
        · simp only [List.length_append, List.length_take, List.length_drop]; omega
        · have hsz2 : (ρ y).cells.size = (ρ y).cells.toList.length := by simp
          rw [← hrow]; simp only [List.size_toArray, List.length_append, List.length_take, List.length_drop, Array.length_toList]; omega
        · rw [← hrow, List.toList_toArray, list_take_over _ _ _ _ (by omega) (by simp; omega), htake]
        · rw [flat_set hor.wid ha _ (by rw [hun, hol, hewid]), hun]
          have e2 : List.take (a * p.sz) (flat es) ++ over e.cells q d'.cells ++ List.drop (a * p.sz + p.sz) (flat es) = (flat es).take (a * p.sz + q) ++ d'.cells ++ (flat es).drop (a * p.sz + q + d'.cells.length) := by
            unfold over
            rw [helem]
            exact list_over (flat es) (a * p.sz) p.sz q 0 d'.cells (by rw [hfl, ← hor.len]; omega) (by rw [hfl, ← hor.len]; omega) (by omega)
          rw [e2]
          refine hkeep _ _ (((hcs.take _).append hcr).append ?_)
          rw [hcr.1]
          exact hcs.drop _
      obtain ⟨h1, h2⟩ := hm1.turn (k := k) (p := p) (p' := p) (es' := es.set a (unpart e (over e.cells q d'.cells))) (w' := w.setRow g' row) hO rfl rfl rfl (by simp)
        (fun b _ hb => setRow_other w g' b _ (fun e => hb (by rw [hgb, e]))) (.inl rfl) (.inl rfl) (.inl rfl) rfl hor'
      exact ⟨h1, .dead _, (ht1.trans h2).mono (fun id h => by rcases h with h | h <;> exact h.elim)⟩
end
end Go.Lg
