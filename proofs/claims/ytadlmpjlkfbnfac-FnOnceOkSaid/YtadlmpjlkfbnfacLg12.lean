/- Part 12 of a logical reading of translated Go: what a frame holds is said by lists, and each operation is proved against the model. No conditions. -/
import Derived.Test.YtadlmpjlkfbnfacLg11
namespace Go.Lg
open Go.RowKit
set_option linter.unusedVariables false

section
variable {P : Program} {c : Cx} {fr : Nat → Bool} {w : World} {O : OM} {ob ob' : OB} {o : Oper} {ρ : Operand → Value}

theorem MR.congr (h : MR c O ob w) (he : ∀ k, lookO ob' k = lookO ob k) : MR c O ob' w :=
  ⟨h.os, h.tape, h.output, h.size, h.frame, fun k => by rw [he]; exact h.dom k, fun k p es h1 h2 => h.obj k p es h1 (by rw [← he]; exact h2), h.inj, h.base, h.sz, h.refs⟩

/-- What can be read of a slice, whose ever it is. -/
theorem elems_ok (hm : MR c O ob w) {d : DV} {v : Value} {es : List DV} (h : VR w c.B (okb c.ok0 c.B O) O d v) (he : elems ob d = some es) :
    ∃ A cx, v = .slice A es.length cx ∧ (0 < es.length → ∃ ad xs, A = some ad ∧ (∀ (j : Nat) (u : Value), xs[j]? = some u → w.cell? (ad.add j) = some u) ∧ CRs w c.B (okb c.ok0 c.B O) (flat es) xs) := by
  cases d with
  | sl p l =>
    simp only [elems, Option.some.injEq] at he
    subst he
    by_cases h0 : 0 < l.length
    · obtain ⟨ad, cap, sz, xs, hv, _, _, _, _, _, _, _, hcell, hcr⟩ := h.sl'.sl' h0
      exact ⟨some ad, cap, hv, fun _ => ⟨ad, xs, rfl, hcell, hcr⟩⟩
    · obtain ⟨A, cx, hv⟩ := (h.slice_).1 p l rfl
      exact ⟨A, cx, hv, fun h1 => absurd h1 h0⟩
  | nil =>
    simp only [elems, Option.some.injEq] at he
    subst he
    exact ⟨none, 0, (h.slice_).2.2 rfl, fun h1 => absurd h1 (by simp)⟩
  | own k n lo hi =>
    simp only [elems] at he
    cases hl : lookO ob k with
    | none => rw [hl] at he; cases he
    | some es0 =>
      rw [hl] at he
      simp only at he
      split at he
      · rename_i hcond
        injection he with he
        obtain ⟨hn, hlo, hhi⟩ := hcond
        obtain ⟨p, hO, hp, _, _, hv, hor⟩ := h.own_cur hm hl hn
        have hlen : es.length = hi - lo := by rw [← he]; simp; omega
        obtain ⟨A, cp, hv, hc1, hc2, hA, _⟩ := hv
        refine ⟨A, cp, by rw [hlen]; exact hv, fun h0 => ?_⟩
        obtain ⟨g, hg, rfl⟩ := hA (by omega)
        obtain ⟨xs, hr, hcs⟩ := hor.row
        have hwid : ∀ e ∈ es0.take hi, e.cells.length = p.sz := fun e he => hor.wid e (List.mem_of_mem_take he)
        have hfl : flat es = ((flat es0).take (hi * p.sz)).drop (lo * p.sz) := by rw [← he, flat_drop hwid, flat_take hor.wid]
        refine ⟨_, (xs.take (hi * p.sz)).drop (lo * p.sz), rfl, fun j u hu => ?_, by rw [hfl]; exact (hcs.take _).drop _⟩
        rw [List.getElem?_drop, List.getElem?_take] at hu
        split at hu
        · have := hr.cells hg (lo * p.sz + j) u hu
          rw [add_plain'] at this ⊢
          simpa using this
        · cases hu
      · cases he
  | _ => simp [elems] at he

theorem run_append_none {t e : TypeId} {i : TypeInfo} (ht : P.underlying t = some (.slice e)) (hi : P.info? e = some i) (base : Option Addr) (n cap : Nat) (hn : n ≤ cap) (A : Option Addr) (cx : Nat) (ty : TypeId) :
    (Builtin.append_ #[t, t] ty #[.slice base n cap, .slice A 0 cx]).run P w = .ok (.slice base n cap) w := by
  cases A <;> cases base <;> simp [Builtin.append_, run_underlying ht, sizeOf, typeInfo, hi, Builtin.lenOf, Builtin.firstCells, hn, storeCells, loadCells, loadCellsFrom]

theorem run_append_room' (t ty e e1 : TypeId) (i : TypeInfo) (ht : P.underlying t = some (.slice e)) (hi : P.info? e = some i)
    (g sLen sCap : Nat) (cur : Array Value) (hg : w.heap[g]? = some (.cells cur e1 (0, 0)))
    (a : Addr) (m c : Nat) (news : List Value) (hl : news.length = m * i.size) (hnews : ∀ (j : Nat) (u : Value), news[j]? = some u → w.cell? (a.add j) = some u) (h1 : ∀ u ∈ news, u.oneCell' = true)
    (hroom : sLen + m ≤ sCap) (hfit : sLen * i.size + news.length ≤ cur.size) :
    (Builtin.append_ #[t, t] ty #[.slice (some ⟨g, 0, none⟩) sLen sCap, .slice (some a) m c]).run P w =
      .ok (.slice (some ⟨g, 0, none⟩) (sLen + m) sCap) (w.setRow g (cur.toList.take (sLen * i.size) ++ news ++ cur.toList.drop (sLen * i.size + news.length)).toArray) := by
  have hf := run_firstCells_some (P := P) w i.size m a m c news hl hnews
  have hst := run_storeCells_at (P := P) g (sLen * i.size) e1 news 0 cur w hg (by simpa using hfit) h1
  simp only [Nat.add_zero] at hst
  simp [Builtin.append_, run_underlying ht, sizeOf, typeInfo, hi, Builtin.lenOf, hroom, hf, Addr.add_lit, hst]

theorem run_append_ty (t ty e e1 : TypeId) (i : TypeInfo) (z : Value) (size bytes : Nat) (ht : P.underlying t = some (.slice e)) (hi : P.info? e = some i) (hz : i.zero = some z)
    (hsize : i.size = size) (hby : i.bytes = bytes) (hzs : z.cells.size = size) (hsz : 0 < size)
    (v : Value) (n : Nat) (xs : List Value) (hown : w.ownsRow 0 e1 size v n xs)
    (a : Addr) (m c : Nat) (news : List Value) (hl : news.length = m * size) (hnews : ∀ (j : Nat) (u : Value), news[j]? = some u → w.cell? (a.add j) = some u) (h1 : ∀ u ∈ news, u.oneCell' = true) (hm0 : 0 < m)
    (h63 : n + m ≤ maxLen) (hbytes : (n + m) * bytes ≤ 140737488355328) :
    ∃ v' w' e2, (Builtin.append_ #[t, t] ty #[v, .slice (some a) m c]).run P w = .ok v' w' ∧ w'.ownsRow 0 e2 size v' (n + m) (xs ++ news) ∧ w.grownBy w' v.ownBlock ∧
      (v'.ownBlock = v.ownBlock ∧ v.ownBlock ≠ none ∨ v'.ownBlock = some w.heap.size) := by
  subst hsize
  subst hby
  have hlen : (xs ++ news).length = (n + m) * i.size := by rw [List.length_append, hown.1, hl, Nat.add_mul]
  have hsmall : n + m ≤ 9223372036854775807 := by simp only [maxLen] at h63; omega
  rcases hown.2 with ⟨rfl, rfl⟩ | ⟨g, cap, cur, rfl, hbg, hg, hnc, hcm, hcs, htake⟩
  · obtain ⟨v', w', hr, h2, h3, h4, h5⟩ := run_append_own_at (P := P) w 0 t ty e i z i.size i.bytes ht hi hz rfl rfl hzs hsz (.slice none 0 0) 0 xs ⟨hown.1, .inl ⟨rfl, rfl⟩⟩ a m c news hl hnews h1 h63 hbytes (Nat.zero_le _)
    refine ⟨v', w', e, hr, h2, h3, ?_⟩
    rcases h5 with h5 | h5
    · exfalso
      have hne : ¬ (v' = .slice none 0 0) := fun h => by have := (h4.1 h).2; omega
      rcases h2.2 with ⟨hv, _⟩ | ⟨g, cap, cur, hv, _⟩
      · exact hne hv
      · rw [hv] at h5; simp [Value.ownBlock] at h5
    · exact .inr h5
  · by_cases hroom : n + m ≤ cap
    · have hfit : n * i.size + news.length ≤ cur.size := by rw [hl, hcs, ← Nat.add_mul]; exact Nat.mul_le_mul_right _ hroom
      have hr := run_append_room' (P := P) (w := w) t ty e e1 i ht hi g n cap cur hg a m c news hl hnews h1 hroom hfit
      refine ⟨_, _, e1, hr, ⟨hlen, .inr ⟨g, cap, _, rfl, hbg, setRow_heap w g cur _ e1 _ hg, hroom, hcm, ?_, ?_⟩⟩, ⟨rfl, rfl, rfl, by simp, fun k _ hk => setRow_other w g k _ (fun e => hk (by simp [Value.ownBlock, e]))⟩, .inl ⟨by simp [Value.ownBlock], by simp [Value.ownBlock]⟩⟩
      · simp only [List.size_toArray, List.length_append, List.length_take, List.length_drop, Array.length_toList]
        omega
      · rw [htake, ← hlen]
        exact List.take_left
    · have holds : ∀ (j : Nat) (u : Value), xs[j]? = some u → w.cell? ((⟨g, 0, none⟩ : Addr).add j) = some u := hown.cells (g := g) rfl
      have hr := run_append_grow (P := P) w t ty e i z ht hi hz ⟨g, 0, none⟩ n cap xs hown.1 holds a m c news hl hnews (by omega) (by omega) (growslice_fits (by omega) hbytes)
      have hge := grownCap_ge w (n + m) cap e
      have hcm : grownCap w (n + m) cap e ≤ maxLen := grownCap_le_maxLen w (n + m) cap e h63
      refine ⟨_, _, e, hr, ⟨hlen, .inr ⟨w.heap.size, _, _, rfl, Nat.zero_le _, heap_alloc_new w.drew _, hge, hcm, ?_, ?_⟩⟩, ⟨rfl, rfl, rfl, by simp, fun k hk _ => Below.heap_alloc w.drew _ k hk⟩, .inr rfl⟩
      · simp only [Array.size_append, List.size_toArray, size_zeroCells, hzs, hown.1, hl, ← Nat.add_mul]
        congr 1
        omega
      · simp only [Array.toList_append, List.append_assoc]
        rw [← List.append_assoc, ← hlen]
        exact List.take_left

theorem execOp_app {x y : Operand} {t : TypeId} (ho : o.op = .call { callee := .builtin .append, args := #[x, y], argTypes := #[t, t] }) {v : Value} {w' : World} (h : (Builtin.append_ #[t, t] o.type #[ρ x, ρ y]).run P w = .ok v w') :
    (execOp ρ o).run P w = .ok (.value v) w' := by
  simp [execOp, ho, resolve, invoke, builtin, h]

theorem ownBlock_of {e : TypeId} {sz : Nat} {v : Value} {n : Nat} {xs : List Value} (h : w.ownsRow 0 e sz v n xs) : (∃ A cap, v = .slice A n cap ∧ n ≤ cap ∧ cap ≤ maxLen) := by
  rcases h.2 with ⟨rfl, rfl⟩ | ⟨g, cap, cur, rfl, _, _, h1, h2, _⟩
  · exact ⟨none, 0, rfl, Nat.le_refl _, Nat.zero_le _⟩
  · exact ⟨_, cap, rfl, h1, h2⟩

theorem view_full {p : PO} {e : TypeId} {n : Nat} {xs : List Value} (h : w.ownsRow 0 e p.sz p.hv n xs) (hp : p.len = n) : view p 0 n p.hv := by
  rcases h.2 with ⟨hv, h0⟩ | ⟨g, cap, cur, hv, _, _, h1, h2, _⟩
  · subst h0
    rw [hv]
    exact ⟨none, 0, rfl, Nat.le_refl _, Nat.zero_le _, fun h => absurd h (by omega), fun _ _ => hv.symm⟩
  · refine ⟨some ⟨g, 0, none⟩, cap, by rw [hv]; rfl, h1, h2, fun _ => ⟨g, by rw [hv]; rfl, by simp⟩, fun _ _ => rfl⟩

theorem elemInfo_app {e : TypeId} {sz : Nat} {zs : List DV} (h : elemInfo P e = some (sz, zs)) : ∃ i z, P.info? e = some i ∧ i.zero = some z ∧ i.size = sz ∧ z.cells.size = sz ∧ 0 < sz ∧ i.bytes ≤ 65536 := by
  obtain ⟨i, z, h1, h2, h3, h4, h5, h6, _, _⟩ := elemInfo_some h
  exact ⟨i, z, h1, h2, h5, h4, h6, h3⟩

theorem out_appNil (hm : MR c O ob w) (hF : Fresh c fr) {x y : Operand} {t e : TypeId} (ho : o.op = .call { callee := .builtin .append, args := #[x, y], argTypes := #[t, t] }) (ht : P.underlying t = some (.slice e)) {sz : Nat} {zs : List DV} (hz : elemInfo P e = some (sz, zs))
    {id : Nat} (hid : fr id = true) (hsz : szId id = sz) {d : DV} {news : List DV} (hx : VR w c.B (okb c.ok0 c.B O) O .nil (ρ x)) (hy : VR w c.B (okb c.ok0 c.B O) O d (ρ y)) (he : elems ob d = some news) (hw : ∀ e ∈ news, e.cells.length = sz) (hb : news.length ≤ bound) :
    Out P c fr w O ((execOp ρ o).run P w) (.own id news.length 0 news.length) (putO ob id news) := by
  obtain ⟨i, z, hi, hzv, hs1, hs2, hpos, hbytes⟩ := elemInfo_app hz
  have hb' : news.length ≤ 1073741824 := hb
  obtain ⟨A, cx, hv, hrd⟩ := elems_ok hm hy he
  have hxv := (hx.slice_).2.2 rfl
  rcases Nat.eq_zero_or_pos news.length with h0 | h0
  · have hn : news = [] := List.eq_nil_of_length_eq_zero h0
    subst hn
    obtain ⟨h1, h2⟩ := hm.newNil id (hF.ne hid) sz e hpos hsz.symm
    refine ⟨.slice none 0 0, w, _, .inl (execOp_app ho ?_), h1, ?_, h2.mono (fun j hj => by rw [hj]; exact hid)⟩
    · rw [hxv, hv]; exact run_append_none ht hi none 0 0 (Nat.le_refl _) A cx o.type
    · exact .own id 0 0 0 _ _ (upd_same _ _ _) rfl (Nat.le_refl _) (Nat.le_refl _) ⟨none, 0, rfl, Nat.le_refl _, Nat.zero_le _, fun h => absurd h (by omega), fun _ _ => rfl⟩
  · obtain ⟨ad, xs, rfl, hcell, hcr⟩ := hrd h0
    have hfl := flat_len hw
    have hr := run_append_nil (P := P) w t o.type e i z ht hi hzv ad news.length cx xs (by rw [hcr.1, hfl, hs1]) hcell h0 (by omega) (by
      have : news.length * i.bytes ≤ 1073741824 * 65536 := Nat.mul_le_mul hb' hbytes
      omega)
    have hge := grownCap_ge w news.length 0 e
    have hcm : grownCap w news.length 0 e ≤ maxLen := grownCap_le_maxLen w news.length 0 e (by simp [maxLen]; omega)
    have hxl : xs.length = news.length * sz := by rw [hcr.1, hfl]
    have ht0 : Tr c.ok0 c.B (fun _ => False) w O w.drew O := ⟨Nat.le_refl _, fun _ _ _ => rfl, fun _ h _ => h, fun _ _ _ h => .inl h⟩
    have hm' : MR c O ob w.drew := ⟨hm.os, hm.tape, hm.output, hm.size, hm.frame, hm.dom, fun k p es h1 h2 => (hm.obj k p es h1 h2).tr ht0 (fun _ _ => rfl), hm.inj, hm.base, hm.sz, hm.refs⟩
    obtain ⟨h1, h2⟩ := hm'.new id (hF.ne hid) news (xs.toArray ++ Builtin.zeroCells z.cells (grownCap w news.length 0 e - news.length)) news.length (grownCap w news.length 0 e) sz e xs hsz.symm rfl hge hcm hpos hw
      (by simp only [Array.size_append, List.size_toArray, size_zeroCells, hs2, hxl, ← Nat.add_mul]; congr 1; omega) (by simp only [Array.toList_append]; rw [← hxl]; exact List.take_left) hxl (hcr.tr ht0)
    refine ⟨.slice (some ⟨w.heap.size, 0, none⟩) news.length (grownCap w news.length 0 e), _, _, .inl (execOp_app ho ?_), h1, ?_, (ht0.trans h2).mono (fun j hj => by rcases hj with h | h; exact h.elim; rw [h]; exact hid)⟩
    · rw [hxv, hv]; exact hr
    · exact .own id _ 0 _ _ _ (upd_same _ _ _) rfl (Nat.zero_le _) (Nat.le_refl _) ⟨_, _, rfl, by omega, hcm, fun h => ⟨_, rfl, by simp⟩, fun _ _ => rfl⟩

theorem out_app (hm : MR c O ob w) (hF : Fresh c fr) {x y : Operand} {t e : TypeId} (ho : o.op = .call { callee := .builtin .append, args := #[x, y], argTypes := #[t, t] }) (ht : P.underlying t = some (.slice e)) {sz : Nat} {zs : List DV} (hz : elemInfo P e = some (sz, zs))
    {k n : Nat} (hk7 : k % 8 ≠ 7) (hsz : szId k = sz) {d : DV} {news es : List DV} (hx : VR w c.B (okb c.ok0 c.B O) O (.own k n 0 n) (ρ x)) (hy : VR w c.B (okb c.ok0 c.B O) O d (ρ y)) (he : elems ob d = some news) (hw : ∀ e ∈ news, e.cells.length = sz) (hl : lookO ob k = some es) (hn : es.length = n) (hb : n + news.length ≤ bound) :
    Out P c fr w O ((execOp ρ o).run P w) (.own k (n + news.length) 0 (n + news.length)) (putO ob k (es ++ news)) := by
  obtain ⟨i, z, hi, hzv, hs1, hs2, hpos, hbytes⟩ := elemInfo_app hz
  have hb' : n + news.length ≤ 1073741824 := hb
  obtain ⟨A, cx, hv, hrd⟩ := elems_ok hm hy he
  obtain ⟨p, hO, hp, _, _, hvw, hor⟩ := hx.own_cur hm hl hn
  obtain ⟨A0, c0, _, _, _, _, hfull⟩ := hvw
  have hxv : ρ x = p.hv := hfull rfl hp.symm
  have hpsz : p.sz = sz := by rw [hm.sz k p hO, hsz]
  obtain ⟨xs0, hrow, hcs0⟩ := hor.row
  rcases Nat.eq_zero_or_pos news.length with h0 | h0
  · have hnn : news = [] := List.eq_nil_of_length_eq_zero h0
    subst hnn
    obtain ⟨A1, c1, hv1, hc1, _⟩ := ownBlock_of hrow
    refine ⟨p.hv, w, O, .inl (execOp_app ho ?_), ?_, ?_, Tr.refl _ _ _ _ _⟩
    · rw [hxv, hv, hv1]; exact run_append_none ht hi A1 p.len c1 hc1 A cx o.type
    · refine hm.congr (fun j => ?_)
      rw [lookO_put, List.append_nil]
      split
      · rename_i h; rw [h, hl]
      · rfl
    · simp only [List.length_nil, Nat.add_zero]
      exact .own k n 0 n p _ hO hp (Nat.zero_le _) (Nat.le_refl _) (by rw [← hp]; exact view_full hrow rfl)
  · obtain ⟨ad, xs, rfl, hcell, hcr⟩ := hrd h0
    have hfl := flat_len hw
    rw [hpsz] at hrow
    obtain ⟨v', w', e2, hr, hrow', hg, hblk⟩ := run_append_ty (P := P) t o.type e p.ty i z sz i.bytes ht hi hzv hs1 rfl hs2 hpos p.hv p.len xs0 hrow ad news.length cx xs (by rw [hcr.1, hfl]) hcell hcr.oneCell h0 (by rw [hp]; simp [maxLen]; omega) (by
      rw [hp]
      have : (n + news.length) * i.bytes ≤ 1073741824 * 65536 := Nat.mul_le_mul hb' hbytes
      omega)
    rw [hp] at hrow'
    have hp' : (⟨v', n + news.length, e2, sz⟩ : PO).hv = v' := rfl
    obtain ⟨h1, h2⟩ := hm.turn (k := k) (p := p) (p' := ⟨v', n + news.length, e2, sz⟩) (es' := es ++ news) (w' := w') hO hg.os hg.tape hg.output hg.size
      (fun b hb hne => hg.block b hb (fun e => hne e.symm)) (by
        rcases hblk with ⟨h, _⟩ | h
        · exact .inl h
        · exact .inr ⟨_, h, Nat.le_refl _⟩) (.inr (fun r hr e => hk7 (by rw [← e]; exact hF.b r hr))) (.inr (by show p.len < n + news.length; omega)) hpsz.symm (fun ok hok hkeep => by
        refine ⟨by simp [hn], hpos, fun q hq => ?_, xs0 ++ xs, hrow', ?_⟩
        · rcases List.mem_append.1 hq with h | h
          · rw [hor.wid q h]; exact hpsz
          · exact hw q h
        · rw [flat_append]
          exact hkeep _ _ (hcs0.append hcr))
    refine ⟨v', w', _, .inl (execOp_app ho ?_), h1, ?_, h2.mono (fun _ h => h.elim)⟩
    · rw [hxv, hv]; exact hr
    · exact .own k _ 0 _ _ _ (upd_same _ _ _) rfl (Nat.zero_le _) (Nat.le_refl _) (view_full (p := ⟨v', n + news.length, e2, sz⟩) hrow' rfl)
end
end Go.Lg
