/- Part 13 of a logical reading of translated Go: what a frame holds is said by lists, and each operation is proved against the model. No conditions. -/
import Derived.Test.YtadlmpjlkfbnfacLg12
namespace Go.Lg
open Go.RowKit
set_option linter.unusedVariables false

theorem cutP_0 {p : Nat} (h : cutP p = 0) : p = 0 := by unfold cutP at h; split at h <;> omega
theorem cutP_n {p : Nat} (h : cutP p = 1 ∨ cutP p = 3) : p = 1 ∨ p = 3 := by unfold cutP at h; split at h <;> omega
theorem cutP_1 {p : Nat} (h : cutP p = 1) : False := by unfold cutP at h; split at h <;> omega
section
variable {P : Program} {c : Cx} {fr : Nat → Bool} {w : World} {O : OM} {ob ob' : OB} {o : Oper} {ρ : Operand → Value}

/-- Two bounds of a slice expression, as they stand in the text. -/
inductive Bd (ρ : Operand → Value) : Option Operand → Option Int → Prop
  | none : Bd ρ none none
  | some (x : Operand) (n : Int) (h : ρ x = .int .i64 n) : Bd ρ (some x) (some n)

theorem run_bounds {lo hi : Option Operand} {a h : Option Int} (hl : Bd ρ lo a) (hh : Bd ρ hi h) (sl : Bool) (len cap : Nat) (h0 : 0 ≤ a.getD 0) (h1 : a.getD 0 ≤ h.getD len) (h2 : h.getD len ≤ len) (hc : len ≤ cap) :
    (Instr.sliceBounds sl len cap (lo.map ρ) (hi.map ρ) none).run P w = .ok ((a.getD 0).toNat, (h.getD len).toNat, cap) w := by
  cases hl with
  | none =>
    cases hh with
    | none => simp [Instr.sliceBounds]
    | some x n hx =>
      simp only [Option.getD_none, Option.getD_some] at h1 h2 h0 ⊢
      simp [Instr.sliceBounds, hx, run_sliceBound, show 0 ≤ n by omega, show n ≤ (cap : Int) by omega]
  | some y m hy =>
    cases hh with
    | none =>
      simp only [Option.getD_none, Option.getD_some] at h1 h2 h0 ⊢
      simp [Instr.sliceBounds, hy, run_sliceBound, h0, h1]
    | some x n hx =>
      simp only [Option.getD_some] at h1 h2 h0 ⊢
      have e : ((n.toNat : Nat) : Int) = n := by omega
      simp [Instr.sliceBounds, hx, hy, run_sliceBound, show 0 ≤ n by omega, show n ≤ (cap : Int) by omega, h0, e, h1]

theorem out_slices (hm : MR c O ob w) {t : TypeId} {x : Operand} {lo hi : Option Operand} (ho : o.op = .slice t x lo hi none) (ht : P.underlying t = some .string) {l : List UInt8} {a h : Option Int} (hx : VR w c.B (okb c.ok0 c.B O) O (.s l) (ρ x))
    (hl : Bd ρ lo a) (hh : Bd ρ hi h) {d : DV} (he : sliceS l a h = some d) : Out P c fr w O ((execOp ρ o).run P w) d ob := by
  unfold sliceS at he
  simp only at he
  split at he
  · rename_i hc
    injection he with he
    subst he
    have hs : (ByteArray.mk l.toArray).size = l.length := by show l.toArray.size = _; simp
    have hr := run_bounds (P := P) (w := w) hl hh false l.length l.length hc.1 hc.2.1 hc.2.2 (Nat.le_refl _)
    have hex : (ByteArray.mk l.toArray).extract (a.getD 0).toNat (h.getD l.length).toNat = ByteArray.mk ((l.take (h.getD l.length).toNat).drop (a.getD 0).toNat).toArray := by
      apply ByteArray.ext
      rw [ByteArray.data_extract]
      apply Array.ext'
      rw [Array.toList_extract, List.extract_eq_take_drop, List.drop_take]
    refine Out.same hm (v := .string ⟨((l.take (h.getD l.length).toNat).drop (a.getD 0).toNat).toArray⟩) ?_ (.mkS _)
    rw [← hex]
    simp [execOp, ho, hx.str, Instr.sliceAt, run_underlying ht, Instr.slice, hs, hr]
  · cases he

theorem out_slice (hm : MR c O ob w) {t e : TypeId} {x : Operand} {lo hi : Option Operand} (ho : o.op = .slice t x lo hi none) (ht : P.underlying t = some (.slice e)) {sz : Nat} (hsz : szOf P e = some sz) {a h : Option Int} {d : DV} (hx : VR w c.B (okb c.ok0 c.B O) O d (ρ x))
    (hl : Bd ρ lo a) (hh : Bd ρ hi h) {r : DV} (he : sliceD ob d sz a h = some r) : Out P c fr w O ((execOp ρ o).run P w) r ob := by
  simp only [szOf, Option.map_eq_some_iff] at hsz
  obtain ⟨i, hi', rfl⟩ := hsz
  have hrun : ∀ {A : Option Addr} {len cap : Nat}, ρ x = .slice A len cap → 0 ≤ a.getD 0 → a.getD 0 ≤ h.getD len → h.getD len ≤ len → len ≤ cap →
      (execOp ρ o).run P w = .ok (.value (.slice (if cap = (a.getD 0).toNat then A else A.map (·.add ((a.getD 0).toNat * i.size))) ((h.getD len).toNat - (a.getD 0).toNat) (cap - (a.getD 0).toNat))) w := by
    intro A len cap hv h0 h1 h2 h3
    have hr := run_bounds (P := P) (w := w) hl hh true len cap h0 h1 h2 h3
    simp [execOp, ho, hv, Instr.sliceAt, run_underlying ht, Instr.slice, hr, sizeOf, typeInfo, hi']
  cases d with
  | sl p es =>
    simp only [sliceD] at he
    split at he
    · rename_i hc
      injection he with he
      subst he
      obtain ⟨hc0, hc1, hc2, hw⟩ := hc
      have hlen : ((es.take (h.getD es.length).toNat).drop (a.getD 0).toNat).length = (h.getD es.length).toNat - (a.getD 0).toNat := by simp; omega
      by_cases h0 : 0 < es.length
      · obtain ⟨ad, cap, sz', xs, hv, hcap, hmx, hwid, hok, hblk, hold, hnew, hcell, hcr⟩ := hx.sl'.sl' h0
        have hs' : sz' = i.size := by
          obtain ⟨q, hq⟩ := List.exists_mem_of_length_pos h0
          rw [← hwid q hq, hw q hq]
        subst hs'
        refine Out.same hm (hrun hv hc0 hc1 hc2 hcap) (.cr _ _ ?_)
        by_cases h1 : (a.getD 0).toNat < (h.getD es.length).toNat
        · rw [if_neg (by omega)]
          have hwt : ∀ q ∈ es.take (h.getD es.length).toNat, q.cells.length = i.size := fun q hq => hw q (List.mem_of_mem_take hq)
          have hfl : flat ((es.take (h.getD es.length).toNat).drop (a.getD 0).toNat) = ((flat es).take ((h.getD es.length).toNat * i.size)).drop ((a.getD 0).toNat * i.size) := by rw [flat_drop hwt, flat_take hw]
          have hcs := (hcr.take ((h.getD es.length).toNat * i.size)).drop ((a.getD 0).toNat * i.size)
          rw [← hfl] at hcs
          refine .sl _ _ (ad.add ((a.getD 0).toNat * i.size)) _ _ i.size _ hlen (by omega) (by omega) (by omega) (fun q hq => hw q (mem_take_drop hq)) (by rw [block_add]; exact hok) (by rw [block_add]; exact hblk) (fun hp => by rw [block_add]; exact hold (cutP_0 hp)) (fun hp => by rw [block_add]; exact hnew (cutP_n hp)) (fun hp => (cutP_1 hp).elim) hcs.1 (fun j u hu => ?_) hcs.2
          rw [add_add']
          rw [List.getElem?_drop, List.getElem?_take] at hu
          split at hu
          · exact hcell _ u hu
          · cases hu
        · have e1 : (es.take (h.getD es.length).toNat).drop (a.getD 0).toNat = [] := List.eq_nil_of_length_eq_zero (by omega)
          have e2 : (h.getD es.length).toNat - (a.getD 0).toNat = 0 := by omega
          rw [e1, e2]
          exact .sl0 _ _ _ (by omega)
      · have hnil : es = [] := List.eq_nil_of_length_eq_zero (by omega)
        subst hnil
        have hcr := hx.sl'
        generalize hv : ρ x = vx at hcr
        cases hcr with
          | sl0 _ A cap hmx =>
            refine Out.same hm (hrun hv hc0 hc1 hc2 (Nat.zero_le _)) (.cr _ _ ?_)
            have e2 : (h.getD ((0 : Nat) : Int)).toNat - (a.getD 0).toNat = 0 := by simp only [List.length_nil] at hc2; omega
            simp only [List.take_nil, List.drop_nil]
            rw [e2]
            exact .sl0 _ _ _ (by omega)
          | sl _ _ ad n cap sz xs hn h00 => simp at hn; omega
    · cases he
  | own k n l0 h0 =>
    simp only [sliceD] at he
    cases hlk : lookO ob k with
    | none => rw [hlk] at he; cases he
    | some es =>
      rw [hlk] at he
      simp only at he
      split at he
      · rename_i hcond
        obtain ⟨hn, hlo, hhi, hsz⟩ := hcond
        split at he
        · rename_i hc
          injection he with he
          subst he
          obtain ⟨p, hO, hp, _, _, hvw, hor⟩ := hx.own_cur hm hlk hn
          obtain ⟨A, cp, hv, hc1, hc2, hA, hfull⟩ := hvw
          have hpsz : p.sz = i.size := by rw [hm.sz k p hO, hsz]
          refine Out.same hm (hrun hv hc.1 hc.2.1 hc.2.2 hc1) (.own k n (l0 + (a.getD 0).toNat) (l0 + (h.getD ((h0 - l0 : Nat) : Int)).toNat) p _ hO hp (by omega) (by omega) ⟨(if cp = (a.getD 0).toNat then A else A.map (·.add ((a.getD 0).toNat * i.size))), cp - (a.getD 0).toNat, ?_, by omega, by omega, fun hlt => ?_, fun h1 h2 => ?_⟩)
          · congr 1; omega
          · obtain ⟨g, hg, rfl⟩ := hA (by omega)
            refine ⟨g, hg, ?_⟩
            rw [if_neg (by omega)]
            simp only [Option.map_some, add_plain', Option.some.injEq, hpsz]
            rw [← Nat.add_mul]
          · have e1 : l0 = 0 := by omega
            have e2 : (a.getD 0).toNat = 0 := by omega
            have e3 : h0 = p.len := by omega
            have e4 : (h.getD ((h0 - l0 : Nat) : Int)).toNat = h0 - l0 := by omega
            rw [← hfull e1 e3, hv, e2, e4]
            simp [Addr.add]
        · cases he
      · cases he
  | _ => simp [sliceD] at he

theorem out_ext (hm : MR c O ob w) {x : Operand} {j : Nat} (ho : o.op = .extract x j) {ds : List DV} {d : DV} (hx : VR w c.B (okb c.ok0 c.B O) O (.tup ds) (ρ x)) (hd : ds[j]? = some d) : Out P c fr w O ((execOp ρ o).run P w) d ob := by
  generalize hv : ρ x = vx at hx
  cases hx with
  | cr _ _ h => cases h
  | tup _ vs hl hnt h =>
    have hj : j < ds.length := (List.getElem?_eq_some_iff.1 hd).1
    have hu : vs[j]? = some vs[j] := Array.getElem?_eq_getElem (by omega)
    refine Out.same hm (v := vs[j]) ?_ (h j d _ hd hu)
    simp [execOp, ho, hv, Instr.extract, hu]

theorem out_b2i (hm : MR c O ob w) {x : Operand} {s t : TypeId} (ho : o.op = .convert s t x) (hs : P.underlying s = some (.int .u8)) (ht : P.underlying t = some (.int .i64)) {n : Nat} (hx : VR w c.B (okb c.ok0 c.B O) O (.y n) (ρ x)) : Out P c fr w O ((execOp ρ o).run P w) (.i n) ob := by
  refine Out.same hm (v := .int .i64 n) ?_ (.mkI _)
  have hn := hx.byte_lt
  have hw : IntKind.i64.wrap (n : Int) = n := by rw [IntKind.wrap_i64]; omega
  simp [execOp, ho, hx.byte, convert, run_underlying hs, run_underlying ht, Conv.intToInt, hw]
theorem out_i2b (hm : MR c O ob w) {x : Operand} {s t : TypeId} (ho : o.op = .convert s t x) (hs : P.underlying s = some (.int .i64)) (ht : P.underlying t = some (.int .u8)) {n : Int} (hx : VR w c.B (okb c.ok0 c.B O) O (.i n) (ρ x)) : Out P c fr w O ((execOp ρ o).run P w) (.y (wr8 n)) ob := by
  have hw : IntKind.u8.wrap n = ((wr8 n : Nat) : Int) := by
    unfold wr8
    have : IntKind.u8.wrap n = n % 256 := by simp [IntKind.wrap, IntKind.signed, IntKind.bits]
    rw [this]; omega
  refine Out.same hm (v := .int .u8 (wr8 n : Nat)) ?_ (.mkY _ (wr8_lt n))
  simp [execOp, ho, hx.int, convert, run_underlying hs, run_underlying ht, Conv.intToInt, hw]
end
end Go.Lg
