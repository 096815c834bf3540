/- Part 15 of a logical reading of translated Go: what a frame holds is said by lists, and each operation is proved against the model. No conditions. -/
import Derived.Test.YtadlmpjlkfbnfacLg14
namespace Go.Lg
open Go.RowKit
set_option linter.unusedVariables false

section
variable {P : Program} {c : Cx} {fr : Nat → Bool} {w : World} {O : OM} {ob ob' : OB} {o : Oper} {a : Act}

def Args (w : World) (c : Cx) (O : OM) (a : Act) (ds : List DV) (xs : List Operand) : Prop :=
  ds.length = xs.length ∧ ∀ (j : Nat) (d : DV) (x : Operand), ds[j]? = some d → xs[j]? = some x → VR w c.B (okb c.ok0 c.B O) O d (a.eval x)

theorem Args.of_view {S : LS} (hs : SR w c.B (okb c.ok0 c.B O) O S.sl a) : ∀ {xs : List Operand} {ys : List Opd}, viewOpds xs = some ys → Args w c O a (ys.map S.get) xs
  | [], ys, h => by simp only [viewOpds, Option.some.injEq] at h; subst h; exact ⟨rfl, by simp⟩
  | x :: xs, ys, h => by
    simp only [viewOpds] at h
    split at h
    · rename_i y hy
      split at h
      · rename_i ys' hys
        injection h with h
        subst h
        obtain ⟨h1, h2⟩ := Args.of_view hs hys
        refine ⟨by simpa using h1, fun j d q hd hq => ?_⟩
        cases j with
        | zero => simp at hd hq; subst hd; subst hq; exact viewOpd_ok hs hy
        | succ j => simp only [List.map_cons, List.getElem?_cons_succ] at hd hq; exact h2 j d q hd hq
      · cases h
    · cases h
theorem Args.zero {ds : List DV} (h : Args w c O a ds []) : ds = [] := List.eq_nil_of_length_eq_zero h.1
theorem Args.one {ds : List DV} {x : Operand} (h : Args w c O a ds [x]) : ∃ d, ds = [d] ∧ VR w c.B (okb c.ok0 c.B O) O d (a.eval x) := by
  match ds, h.1 with
  | [d], _ => exact ⟨d, rfl, h.2 0 d x rfl rfl⟩
theorem Args.two {ds : List DV} {x y : Operand} (h : Args w c O a ds [x, y]) : ∃ d e, ds = [d, e] ∧ VR w c.B (okb c.ok0 c.B O) O d (a.eval x) ∧ VR w c.B (okb c.ok0 c.B O) O e (a.eval y) := by
  match ds, h.1 with
  | [d, e], _ => exact ⟨d, e, rfl, h.2 0 d x rfl rfl, h.2 1 e y rfl rfl⟩
theorem Args.three {ds : List DV} {x y z : Operand} (h : Args w c O a ds [x, y, z]) : ∃ d e f, ds = [d, e, f] ∧ VR w c.B (okb c.ok0 c.B O) O d (a.eval x) ∧ VR w c.B (okb c.ok0 c.B O) O e (a.eval y) ∧ VR w c.B (okb c.ok0 c.B O) O f (a.eval z) := by
  match ds, h.1 with
  | [d, e, f], _ => exact ⟨d, e, f, rfl, h.2 0 d x rfl rfl, h.2 1 e y rfl rfl, h.2 2 f z rfl rfl⟩

theorem elemSz_some {t e : TypeId} {sz : Nat} (h : elemSz P t = some (e, sz)) : P.underlying t = some (.slice e) ∧ szOf P e = some sz := by
  unfold elemSz at h
  split at h
  · rename_i e' he
    simp only [Option.map_eq_some_iff, Prod.mk.injEq] at h
    obtain ⟨s, hs, rfl, rfl⟩ := h
    refine ⟨?_, hs⟩
    unfold elemT at he
    split at he
    · rename_i hu; injection he with he; subst he; exact hu
    · cases he
  · cases h
theorem arrOf_some {t : TypeId} {len sz : Nat} (h : arrOf P t = some (len, sz)) : ∃ e, P.underlying t = some (.array len e) ∧ szOf P e = some sz := by
  unfold arrOf at h
  split at h
  · rename_i len' e hu
    simp only [Option.map_eq_some_iff, Prod.mk.injEq] at h
    obtain ⟨s, hs, rfl, rfl⟩ := h
    exact ⟨e, hu, hs⟩
  · cases h
theorem elemT_some {t e : TypeId} (he : elemT P t = some e) : P.underlying t = some (.slice e) := by
  unfold elemT at he
  split at he
  · rename_i hu; injection he with he; subst he; exact hu
  · cases he
theorem idAt_some {d : Option Tmp} {sz id : Nat} (h : idAt d sz = some id) : 0 < sz ∧ szId id = sz := by
  unfold idAt at h
  split at h
  · split at h
    · rename_i hc
      injection h with h
      subst h
      exact ⟨hc.1, szId_mk _ _ _ hc.2 (by omega)⟩
    · cases h
  · cases h
theorem loadInfo_some {t : TypeId} {i : Nat × Bool} (h : loadInfo P t = some i) : szOf P t = some i.1 ∧ aggOf P t = some i.2 ∧ (i.2 = false → i.1 = 1) := by
  unfold loadInfo at h
  split at h
  · rename_i n g hn hg
    split at h
    · rename_i hc
      injection h with h
      subst h
      exact ⟨hn, hg, fun h => by rcases hc with hc | hc; simp_all; exact hc⟩
    · cases h
  · cases h
theorem fieldInfo_some {t : TypeId} {f : Nat} {i : Nat × Nat × Bool} (h : fieldInfo P t f = some i) : fieldOf P t f = some (i.1, i.2.1, i.2.2) ∧ (i.2.2 = false → i.2.1 = 1) := by
  unfold fieldInfo at h
  split at h
  · rename_i off n g hf
    split at h
    · rename_i hc
      injection h with h
      subst h
      exact ⟨hf, fun h => by rcases hc with hc | hc; simp_all; exact hc⟩
    · cases h
  · cases h

theorem bd_of {lo hi : Option Operand} {ds : List DV} (hA : Args w c O a ds (lo.toList ++ hi.toList)) {p q : Option Int} (hb : bounds lo.isSome hi.isSome ds = some (p, q)) : Bd a.eval lo p ∧ Bd a.eval hi q := by
  cases lo <;> cases hi
  · obtain rfl := hA.zero
    simp only [bounds, Option.isSome_none, Option.some.injEq, Prod.mk.injEq] at hb
    obtain ⟨rfl, rfl⟩ := hb
    exact ⟨.none, .none⟩
  · rename_i y
    obtain ⟨d, rfl, hd⟩ := hA.one
    cases d <;> simp [bounds] at hb
    obtain ⟨rfl, rfl⟩ := hb
    exact ⟨.none, .some y _ hd.int⟩
  · rename_i y
    obtain ⟨d, rfl, hd⟩ := Args.one (x := y) (by simpa using hA)
    cases d <;> simp [bounds] at hb
    obtain ⟨rfl, rfl⟩ := hb
    exact ⟨.some y _ hd.int, .none⟩
  · rename_i y z
    obtain ⟨d, e, rfl, hd, he⟩ := Args.two (x := y) (y := z) (by simpa using hA)
    cases d <;> cases e <;> simp [bounds] at hb
    obtain ⟨rfl, rfl⟩ := hb
    exact ⟨.some y _ hd.int, .some z _ he.int⟩

theorem Args.tail {d : DV} {ds : List DV} {x : Operand} {xs : List Operand} (h : Args w c O a (d :: ds) (x :: xs)) : VR w c.B (okb c.ok0 c.B O) O d (a.eval x) ∧ Args w c O a ds xs :=
  ⟨h.2 0 d x rfl rfl, by simpa using h.1, fun j e q he hq => h.2 (j + 1) e q (by simpa using he) (by simpa using hq)⟩

theorem effP_ok (hm : MR c O ob w) (hF : Fresh c fr) {k : K} {xs : List Operand} (hv : viewK P o = some (k, xs)) {ds : List DV} (hA : Args w c O a ds xs) {d : DV} (he : effP fr k ds ob = some (d, ob')) :
    Out P c fr w O ((execOp a.eval o).run P w) d ob' := by
  unfold viewK at hv
  split at hv
  -- move
  · rename_i x hop
    injection hv with hv; simp only [Prod.mk.injEq] at hv; obtain ⟨rfl, rfl⟩ := hv
    obtain ⟨dx, rfl, hx⟩ := hA.one
    simp only [effP, Option.some.injEq, Prod.mk.injEq] at he; obtain ⟨rfl, rfl⟩ := he
    exact out_mv hm (.inl hop) hx
  -- assign
  · rename_i x hop
    split at hv
    · split at hv
      · rename_i e sz hes
        simp only [Option.map_eq_some_iff, Prod.mk.injEq] at hv
        obtain ⟨id, hid, rfl, rfl⟩ := hv
        obtain rfl := hA.zero
        simp only [effP] at he
        split at he
        · rename_i hfr
          injection he with he; simp only [Prod.mk.injEq] at he; obtain ⟨rfl, rfl⟩ := he
          exact out_newnil hm hF hop (fun v => rfl) hfr (by rw [(idAt_some hid).2]; exact (idAt_some hid).1)
        · cases he
      · cases hv
    · injection hv with hv; simp only [Prod.mk.injEq] at hv; obtain ⟨rfl, rfl⟩ := hv
      obtain ⟨dx, rfl, hx⟩ := hA.one
      simp only [effP, Option.some.injEq, Prod.mk.injEq] at he; obtain ⟨rfl, rfl⟩ := he
      exact out_mv hm (.inr hop) hx
  -- pick
  · rename_i x y z hop
    injection hv with hv; simp only [Prod.mk.injEq] at hv; obtain ⟨rfl, rfl⟩ := hv
    obtain ⟨dx, dy, dz, rfl, hx, hy, hz⟩ := hA.three
    simp only [effP] at he
    split at he
    · rename_i heq
      simp only [List.cons.injEq, and_true] at heq
      obtain ⟨rfl, rfl, rfl⟩ := heq
      injection he with he; simp only [Prod.mk.injEq] at he; obtain ⟨rfl, rfl⟩ := he
      exact out_pick hm hop hx hy hz
    · cases he
  -- binOp
  · rename_i op t x y yt hop
    simp only [Option.map_eq_some_iff, Prod.mk.injEq] at hv
    obtain ⟨k', hk, rfl, rfl⟩ := hv
    obtain ⟨dx, dy, rfl, hx, hy⟩ := hA.two
    have plain : k' = .bin op → Out P c fr w O ((execOp a.eval o).run P w) d ob' := by
      rintro rfl
      simp only [effP, Option.map_eq_some_iff, Prod.mk.injEq] at he
      obtain ⟨d', hd, rfl, rfl⟩ := he
      exact out_bin hm hop hx hy hd
    unfold viewBin at hk
    split at hk
    · injection hk with hk; exact plain hk.symm
    · injection hk with hk; exact plain hk.symm
    · injection hk with hk; exact plain hk.symm
    · rename_i hu
      have key : ∀ g : Bool, op = (if g then .neq else .eql) → k' = .eqb g → Out P c fr w O ((execOp a.eval o).run P w) d ob' := by
        rintro g hopg rfl
        simp only [effP] at he
        split at he
        · rename_i heq
          simp only [List.cons.injEq, and_true] at heq
          obtain ⟨rfl, rfl⟩ := heq
          injection he with he; simp only [Prod.mk.injEq] at he; obtain ⟨rfl, rfl⟩ := he
          exact out_eqb hm hop hopg hu hx hy
        · cases he
      split at hk
      · injection hk with hk; exact key false rfl hk.symm
      · injection hk with hk; exact key true rfl hk.symm
      · cases hk
    · rename_i fs hu
      split at hk
      · rename_i hst
        have key : ∀ g : Bool, op = (if g then .neq else .eql) → k' = .eqs g fs.size → Out P c fr w O ((execOp a.eval o).run P w) d ob' := by
          rintro g hopg rfl
          simp only [effP] at he
          split at he
          · rename_i heq
            simp only [List.cons.injEq, and_true] at heq
            obtain ⟨rfl, rfl⟩ := heq
            split at he
            · rename_i hl
              simp only [Option.map_eq_some_iff, Prod.mk.injEq] at he
              obtain ⟨r, hr, rfl, rfl⟩ := he
              exact out_eqs hm hop hopg hst hl.1 hl.2 hx hy hr
            · cases he
          · cases he
        split at hk
        · injection hk with hk; exact key false rfl hk.symm
        · injection hk with hk; exact key true rfl hk.symm
        · cases hk
      · cases hk
    · cases hk
  -- unOp
  · rename_i op t x hop
    injection hv with hv; simp only [Prod.mk.injEq] at hv; obtain ⟨rfl, rfl⟩ := hv
    obtain ⟨dx, rfl, hx⟩ := hA.one
    simp only [effP, Option.map_eq_some_iff, Prod.mk.injEq] at he
    obtain ⟨d', hd, rfl, rfl⟩ := he
    exact out_un hm hop hx hd
  -- call
  · rename_i cl hop
    unfold viewCall at hv
    split at hv
    · split at hv <;> (injection hv with hv; simp only [Prod.mk.injEq] at hv; obtain ⟨rfl, rfl⟩ := hv; simp [effP] at he)
    · rename_i hcal
      split at hv
      · rename_i x t hargs htys
        have hcl : cl = { callee := .builtin .len, args := #[x], argTypes := #[t] } := by
          cases cl; simp only at hcal hargs htys; subst hcal
          congr
          · apply Array.ext'; exact hargs
          · apply Array.ext'; exact htys
        rw [hcl] at hop
        split at hv
        · rename_i e hu
          injection hv with hv; simp only [Prod.mk.injEq] at hv; obtain ⟨rfl, rfl⟩ := hv
          obtain ⟨dx, rfl, hx⟩ := hA.one
          simp only [effP] at he
          split at he
          · rename_i heq; simp only [List.cons.injEq, and_true] at heq; subst heq
            injection he with he; simp only [Prod.mk.injEq] at he; obtain ⟨rfl, rfl⟩ := he
            obtain ⟨A, cap, hxv⟩ := (hx.slice_).1 _ _ rfl
            exact out_len hm hop hu hxv
          · rename_i heq; simp only [List.cons.injEq, and_true] at heq; subst heq
            injection he with he; simp only [Prod.mk.injEq] at he; obtain ⟨rfl, rfl⟩ := he
            obtain ⟨A, cap, hxv⟩ := (hx.slice_).2.1 _ _ _ _ rfl
            exact out_len hm hop hu hxv
          · rename_i heq; simp only [List.cons.injEq, and_true] at heq; subst heq
            injection he with he; simp only [Prod.mk.injEq] at he; obtain ⟨rfl, rfl⟩ := he
            exact out_len hm hop hu ((hx.slice_).2.2 rfl)
          · cases he
        · rename_i hu
          injection hv with hv; simp only [Prod.mk.injEq] at hv; obtain ⟨rfl, rfl⟩ := hv
          obtain ⟨dx, rfl, hx⟩ := hA.one
          simp only [effP] at he
          split at he
          · rename_i heq; simp only [List.cons.injEq, and_true] at heq; subst heq
            injection he with he; simp only [Prod.mk.injEq] at he; obtain ⟨rfl, rfl⟩ := he
            exact out_lens hm hop hu hx
          · cases he
        · cases hv
      · cases hv
    · rename_i hcal
      split at hv
      · rename_i x y t u hargs htys
        split at hv
        · rename_i htu
          subst htu
          have hcl : cl = { callee := .builtin .append, args := #[x, y], argTypes := #[t, t] } := by
            cases cl; simp only at hcal hargs htys; subst hcal
            congr
            · apply Array.ext'; exact hargs
            · apply Array.ext'; exact htys
          rw [hcl] at hop
          split at hv
          · rename_i e het
            split at hv
            · rename_i sz zs hz
              simp only [Option.map_eq_some_iff, Prod.mk.injEq] at hv
              obtain ⟨id, hid, rfl, rfl⟩ := hv
              obtain ⟨dx, dy, rfl, hx, hy⟩ := hA.two
              simp only [effP] at he
              split at he
              · rename_i news hnews
                split at he
                · rename_i hw
                  split at he
                  · split at he
                    · rename_i hc
                      injection he with he; simp only [Prod.mk.injEq] at he; obtain ⟨rfl, rfl⟩ := he
                      exact out_appNil hm hF hop (elemT_some het) hz hc.1 hc.2.1 hx hy hnews hw hc.2.2
                    · cases he
                  · rename_i k n h _
                    split at he
                    · rename_i es hl
                      split at he
                      · rename_i hc
                        obtain ⟨hk7, hsz, hn, rfl, hb⟩ := hc
                        injection he with he; simp only [Prod.mk.injEq] at he; obtain ⟨rfl, rfl⟩ := he
                        exact out_app hm hF hop (elemT_some het) hz hk7 hsz hx hy hnews hw hl hn hb
                      · cases he
                    · cases he
                  · cases he
                · cases he
              · cases he
            · cases hv
          · cases hv
        · cases hv
      · cases hv
    · rename_i hcal
      split at hv
      · rename_i x y hargs
        injection hv with hv; simp only [Prod.mk.injEq] at hv; obtain ⟨rfl, rfl⟩ := hv
        have hcl : cl = { callee := .builtin (if true then .max else .min), args := #[x, y], argTypes := cl.argTypes } := by
          cases cl; simp only at hcal hargs; subst hcal
          congr
          apply Array.ext'; exact hargs
        rw [hcl] at hop
        obtain ⟨dx, dy, rfl, hx, hy⟩ := hA.two
        simp only [effP] at he
        split at he
        · rename_i heq; simp only [List.cons.injEq, and_true] at heq; obtain ⟨rfl, rfl⟩ := heq
          injection he with he; simp only [Prod.mk.injEq] at he; obtain ⟨rfl, rfl⟩ := he
          exact out_mm hm hop hx hy
        · cases he
      · cases hv
    · rename_i hcal
      split at hv
      · rename_i x y hargs
        injection hv with hv; simp only [Prod.mk.injEq] at hv; obtain ⟨rfl, rfl⟩ := hv
        have hcl : cl = { callee := .builtin (if false then .max else .min), args := #[x, y], argTypes := cl.argTypes } := by
          cases cl; simp only at hcal hargs; subst hcal
          congr
          apply Array.ext'; exact hargs
        rw [hcl] at hop
        obtain ⟨dx, dy, rfl, hx, hy⟩ := hA.two
        simp only [effP] at he
        split at he
        · rename_i heq; simp only [List.cons.injEq, and_true] at heq; obtain ⟨rfl, rfl⟩ := heq
          injection he with he; simp only [Prod.mk.injEq] at he; obtain ⟨rfl, rfl⟩ := he
          exact out_mm hm hop hx hy
        · cases he
      · cases hv
    · cases hv
  -- nilCheck
  · rename_i x hop
    injection hv with hv; simp only [Prod.mk.injEq] at hv; obtain ⟨rfl, rfl⟩ := hv
    obtain ⟨dx, rfl, hx⟩ := hA.one
    simp only [effP] at he
    split at he
    · rename_i heq; simp only [List.cons.injEq, and_true] at heq; subst heq
      injection he with he; simp only [Prod.mk.injEq] at he; obtain ⟨rfl, rfl⟩ := he
      obtain ⟨ad, _, hxv, _⟩ := hx.adr'
      exact out_chk hm hop hx ⟨ad, hxv⟩
    · rename_i heq; simp only [List.cons.injEq, and_true] at heq; subst heq
      injection he with he; simp only [Prod.mk.injEq] at he; obtain ⟨rfl, rfl⟩ := he
      obtain ⟨ad, hxv, _⟩ := hx.oad'
      exact out_chk hm hop hx ⟨ad, hxv⟩
    · cases he
  -- fieldAddr
  · rename_i t x f hop
    simp only [Option.map_eq_some_iff, Prod.mk.injEq] at hv
    obtain ⟨i, hi, rfl, rfl⟩ := hv
    obtain ⟨h1, h2⟩ := fieldInfo_some hi
    obtain ⟨dx, rfl, hx⟩ := hA.one
    simp only [effP] at he
    split at he
    · rename_i heq; simp only [List.cons.injEq, and_true] at heq; subst heq
      simp only [Option.map_eq_some_iff, Prod.mk.injEq] at he
      obtain ⟨e, hp, rfl, rfl⟩ := he
      exact out_fld hm hop h1 h2 hx hp
    · rename_i heq; simp only [List.cons.injEq, and_true] at heq; subst heq
      injection he with he; simp only [Prod.mk.injEq] at he; obtain ⟨rfl, rfl⟩ := he
      exact out_fldO hm hop h1 hx
    · cases he
  -- field
  · rename_i t x f hop
    simp only [Option.map_eq_some_iff, Prod.mk.injEq] at hv
    obtain ⟨i, hi, rfl, rfl⟩ := hv
    obtain ⟨h1, h2⟩ := fieldInfo_some hi
    obtain ⟨dx, rfl, hx⟩ := hA.one
    simp only [effP] at he
    split at he
    · rename_i heq; simp only [List.cons.injEq, and_true] at heq; subst heq
      simp only [Option.map_eq_some_iff, Prod.mk.injEq] at he
      obtain ⟨e, hp, rfl, rfl⟩ := he
      exact out_fldv hm hop h1 h2 hx hp
    · cases he
  -- indexAddr
  · rename_i t x y hop
    split at hv
    · rename_i len sz harr
      injection hv with hv; simp only [Prod.mk.injEq] at hv; obtain ⟨rfl, rfl⟩ := hv
      obtain ⟨e, h1, h2⟩ := arrOf_some harr
      obtain ⟨dx, dy, rfl, hx, hy⟩ := hA.two
      simp only [effP] at he
      split at he
      · rename_i heq; simp only [List.cons.injEq, and_true] at heq; obtain ⟨rfl, rfl⟩ := heq
        split at he
        · rename_i hc
          injection he with he; simp only [Prod.mk.injEq] at he; obtain ⟨rfl, rfl⟩ := he
          exact out_idxp hm hop h1 h2 hx hy hc.1 hc.2
        · cases he
      · cases he
    · simp only [Option.map_eq_some_iff, Prod.mk.injEq] at hv
      obtain ⟨⟨e, sz⟩, hi, rfl, rfl⟩ := hv
      obtain ⟨h1, h2⟩ := elemSz_some hi
      obtain ⟨dx, dy, rfl, hx, hy⟩ := hA.two
      simp only [effP] at he
      split at he
      · rename_i heq; simp only [List.cons.injEq, and_true] at heq; obtain ⟨rfl, rfl⟩ := heq
        split at he
        · rename_i h0
          split at he
          · rename_i e' hget
            split at he
            · rename_i hw
              injection he with he; simp only [Prod.mk.injEq] at he; obtain ⟨rfl, rfl⟩ := he
              exact out_idxa hm hop h1 h2 hx hy h0 hget hw
            · cases he
          · cases he
        · cases he
      · rename_i heq; simp only [List.cons.injEq, and_true] at heq; obtain ⟨rfl, rfl⟩ := heq
        split at he
        · rename_i es hes
          split at he
          · rename_i hc
            injection he with he; simp only [Prod.mk.injEq] at he; obtain ⟨rfl, rfl⟩ := he
            exact out_idxaO hm hop h1 h2 hx hy hes hc.1 hc.2.1 hc.2.2
          · cases he
        · cases he
      · cases he
  -- index
  · rename_i t x y hop
    split at hv
    · rename_i hu
      injection hv with hv; simp only [Prod.mk.injEq] at hv; obtain ⟨rfl, rfl⟩ := hv
      obtain ⟨dx, dy, rfl, hx, hy⟩ := hA.two
      simp only [effP] at he
      split at he
      · rename_i heq; simp only [List.cons.injEq, and_true] at heq; obtain ⟨rfl, rfl⟩ := heq
        split at he
        · rename_i h0
          simp only [Option.map_eq_some_iff, Prod.mk.injEq] at he
          obtain ⟨b, hb, rfl, rfl⟩ := he
          exact out_idx hm hop hu hx hy h0 hb
        · cases he
      · cases he
    · cases hv
  -- load
  · rename_i t x hop
    simp only [Option.map_eq_some_iff, Prod.mk.injEq] at hv
    obtain ⟨i, hi, rfl, rfl⟩ := hv
    obtain ⟨h1, h2, h3⟩ := loadInfo_some hi
    obtain ⟨dx, rfl, hx⟩ := hA.one
    simp only [effP] at he
    split at he
    · rename_i heq; simp only [List.cons.injEq, and_true] at heq; subst heq
      simp only [Option.map_eq_some_iff, Prod.mk.injEq] at he
      obtain ⟨e, hp, rfl, rfl⟩ := he
      rename_i d0
      have hde : e = d0 := by
        split at hp
        · split at hp
          · injection hp with hp; exact hp.symm
          · cases hp
        · split at hp
          · cases hp
          · injection hp with hp; exact hp.symm
      subst hde
      exact out_load hm hop h1 h2 h3 hp hx
    · rename_i heq; simp only [List.cons.injEq, and_true] at heq; subst heq
      split at he
      · rename_i es hl
        split at he
        · rename_i hn
          split at he
          · rename_i e hget
            simp only [Option.map_eq_some_iff, Prod.mk.injEq] at he
            obtain ⟨e', hp, rfl, rfl⟩ := he
            exact out_loadO hm hop h1 h2 h3 hx hl hn hget hp
          · cases he
        · cases he
      · cases he
    · cases he
  -- store
  · rename_i t x y hop
    simp only [Option.map_eq_some_iff, Prod.mk.injEq] at hv
    obtain ⟨n, hn, rfl, rfl⟩ := hv
    obtain ⟨dx, dy, rfl, hx, hy⟩ := hA.two
    simp only [effP] at he
    split at he
    · rename_i heq; simp only [List.cons.injEq, and_true] at heq; obtain ⟨rfl, rfl⟩ := heq
      split at he
      · rename_i v' ob1 hs
        split at he
        · rename_i es hl
          split at he
          · rename_i hc
            split at he
            · rename_i e hget
              split at he
              · rename_i hq
                injection he with he; simp only [Prod.mk.injEq] at he; obtain ⟨rfl, rfl⟩ := he
                exact out_store hm hop hn hx hy hs hl hc.1 hc.2 hget hq
              · cases he
            · cases he
          · cases he
        · cases he
      · cases he
    · cases he
  -- slice
  · rename_i t x lo hi mx hop
    split at hv
    · split at hv
      · rename_i hu
        injection hv with hv; simp only [Prod.mk.injEq] at hv; obtain ⟨rfl, rfl⟩ := hv
        simp only [effP] at he
        split at he
        · obtain ⟨hx, hA'⟩ := hA.tail
          split at he
          · rename_i p q hb
            obtain ⟨hb1, hb2⟩ := bd_of hA' hb
            simp only [Option.map_eq_some_iff, Prod.mk.injEq] at he
            obtain ⟨e, hp, rfl, rfl⟩ := he
            exact out_slices hm hop hu hx hb1 hb2 hp
          · cases he
        · cases he
      · rename_i e hu
        simp only [Option.map_eq_some_iff, Prod.mk.injEq] at hv
        obtain ⟨n, hn, rfl, rfl⟩ := hv
        simp only [effP] at he
        split at he
        · obtain ⟨hx, hA'⟩ := hA.tail
          split at he
          · rename_i p q hb
            obtain ⟨hb1, hb2⟩ := bd_of hA' hb
            simp only [Option.map_eq_some_iff, Prod.mk.injEq] at he
            obtain ⟨e, hp, rfl, rfl⟩ := he
            exact out_slice hm hop hu hn hx hb1 hb2 hp
          · cases he
        · cases he
      · cases hv
    · cases hv
  -- makeSlice
  · rename_i t x y hop
    split at hv
    · rename_i e het
      split at hv
      · rename_i sz z hz
        simp only [Option.map_eq_some_iff, Prod.mk.injEq] at hv
        obtain ⟨id, hid, rfl, rfl⟩ := hv
        obtain ⟨dx, dy, rfl, hx, hy⟩ := hA.two
        simp only [effP] at he
        split at he
        · rename_i heq; simp only [List.cons.injEq, and_true] at heq; obtain ⟨rfl, rfl⟩ := heq
          split at he
          · rename_i hc
            injection he with he; simp only [Prod.mk.injEq] at he; obtain ⟨rfl, rfl⟩ := he
            exact out_make hm hF hop (elemT_some het) hz hc.1 (idAt_some hid).2 hx hy hc.2.1 hc.2.2.1 hc.2.2.2
          · cases he
        · cases he
      · cases hv
    · cases hv
  -- alloc
  · rename_i e hop
    split at hv
    · rename_i sz z hz
      simp only [Option.map_eq_some_iff, Prod.mk.injEq] at hv
      obtain ⟨id, hid, rfl, rfl⟩ := hv
      obtain rfl := hA.zero
      simp only [effP] at he
      split at he
      · rename_i hfr
        injection he with he; simp only [Prod.mk.injEq] at he; obtain ⟨rfl, rfl⟩ := he
        exact out_alloc hm hF hop hz hfr (idAt_some hid).2
      · cases he
    · cases hv
  -- box
  · rename_i e x hop
    split at hv
    · rename_i sz hz
      simp only [Option.map_eq_some_iff, Prod.mk.injEq] at hv
      obtain ⟨id, hid, rfl, rfl⟩ := hv
      obtain ⟨dx, rfl, hx⟩ := hA.one
      simp only [effP] at he
      split at he
      · rename_i v' ob1 hs
        split at he
        · rename_i hc
          injection he with he; simp only [Prod.mk.injEq] at he; obtain ⟨rfl, rfl⟩ := he
          exact out_box hm hF hop hx hs hc.1 hc.2 (by rw [(idAt_some hid).2]; exact (idAt_some hid).1)
        · cases he
      · cases he
    · cases hv
  -- build
  · rename_i t parts hop
    split at hv
    · rename_i hfs
      split at hv
      · rename_i sz zs hz
        simp only [Option.map_eq_some_iff, Prod.mk.injEq] at hv
        obtain ⟨ps, hps, rfl, rfl⟩ := hv
        simp only [effP] at he
        split at he
        · rename_i vs ob1 hs
          simp only [Option.map_eq_some_iff, Prod.mk.injEq] at he
          obtain ⟨cs, hf, rfl, rfl⟩ := he
          exact out_build hm hop hz hfs hps (by rw [hA.1]; simp) (fun j d q hd hq => hA.2 j d q.2 hd (by simp [List.getElem?_map, hq])) hs hf
        · cases he
      · cases hv
    · cases hv
  -- buildSlice
  · rename_i t len parts hop
    split at hv
    · rename_i e het
      split at hv
      · rename_i sz z hz
        split at hv
        · rename_i hlen
          simp only [Option.map_eq_some_iff, Prod.mk.injEq] at hv
          obtain ⟨id, hid, rfl, rfl⟩ := hv
          simp only [effP] at he
          split at he
          · rename_i vs ob1 hs
            split at he
            · rename_i hfr
              simp only [Option.map_eq_some_iff, Prod.mk.injEq] at he
              obtain ⟨es, hf, rfl, rfl⟩ := he
              exact out_bslice hm hF hop (elemT_some het) hz hlen hfr (idAt_some hid).2 (by rw [hA.1]; simp) (fun j d q hd hq => hA.2 j d q.2 hd (by simp [List.getElem?_map, hq])) hs hf
            · cases he
          · cases he
        · cases hv
      · cases hv
    · cases hv
  -- convert
  · rename_i s t x hop
    split at hv
    · rename_i d0 hd0
      simp only [Option.map_eq_some_iff, Prod.mk.injEq] at hv
      obtain ⟨k', hk, rfl, rfl⟩ := hv
      obtain ⟨dx, rfl, hx⟩ := hA.one
      unfold viewConv at hk
      split at hk
      · rename_i hs ht
        injection hk with hk; subst hk
        simp only [effP] at he
        split at he
        · rename_i heq; simp only [List.cons.injEq, and_true] at heq; subst heq
          injection he with he; simp only [Prod.mk.injEq] at he; obtain ⟨rfl, rfl⟩ := he
          exact out_b2i hm hop hs ht hx
        · cases he
      · rename_i hs ht
        injection hk with hk; subst hk
        simp only [effP] at he
        split at he
        · rename_i heq; simp only [List.cons.injEq, and_true] at heq; subst heq
          injection he with he; simp only [Prod.mk.injEq] at he; obtain ⟨rfl, rfl⟩ := he
          exact out_i2b hm hop hs ht hx
        · cases he
      · rename_i hs ht
        injection hk with hk; subst hk
        simp only [effP] at he
        split at he
        · rename_i heq; simp only [List.cons.injEq, and_true] at heq; subst heq
          injection he with he; simp only [Prod.mk.injEq] at he; obtain ⟨rfl, rfl⟩ := he
          exact out_i2i hm hop hs ht hx
        · cases he
      · rename_i hs ht
        injection hk with hk; subst hk
        simp only [effP] at he
        split at he
        · rename_i heq; simp only [List.cons.injEq, and_true] at heq; subst heq
          injection he with he; simp only [Prod.mk.injEq] at he; obtain ⟨rfl, rfl⟩ := he
          exact out_s2s hm hop hs ht hx
        · cases he
      · cases hk
    · cases hv
  -- extract
  · rename_i x j hop
    injection hv with hv; simp only [Prod.mk.injEq] at hv; obtain ⟨rfl, rfl⟩ := hv
    obtain ⟨dx, rfl, hx⟩ := hA.one
    simp only [effP] at he
    split at he
    · rename_i heq; simp only [List.cons.injEq, and_true] at heq; subst heq
      simp only [Option.map_eq_some_iff, Prod.mk.injEq] at he
      obtain ⟨e, hp, rfl, rfl⟩ := he
      exact out_ext hm hop hx hp
    · cases he
  · cases hv
end
end Go.Lg
