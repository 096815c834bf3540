/- Part E of a logical reading of translated Go: what a frame holds is said by lists, and each operation is proved against the model. No conditions. -/
import Derived.Test.YtldepejkagfdmaaLgD
set_option linter.unusedSectionVars false
set_option linter.unusedVariables false
set_option linter.unusedSimpArgs false
namespace Go.Lg
variable [GL]
set_option linter.unusedSimpArgs false
set_option linter.unusedVariables false
open Go.RowKit Go.ChangeShapes Go.WideShapes Go.Deep

/-! ### Slices of slices of numbers -/
def eR (r : List Int) : DV := .sl 0 (r.map .i)
def rss (L : List (List Int)) : DV := .sl 0 (L.map eR)
section
variable {H : Type} {enc : TypeId × Value → H} {P : Program} {w : World} {base b0 : Nat} {r : Reach} {spare : Nat → Bool} {held : Bool}
theorem row_of {t e : TypeId} {fuel : Nat} {cs : List Value} {x0 : DataW H × List MemPlace} (ht : P.underlying t = some (.slice e)) (he : P.underlying e = some (.int .i64)) (hC : P.cellsOf e = 1)
    (h : DataW.trod enc P w base spare held fuel t cs = some x0) :
    ∃ (v : Value) (xs : List Int), cs = [v] ∧ CR w w.heap.size (okb (fun _ => True) w.heap.size fun _ => none) (.sl 0 (xs.map .i)) v ∧ xs.length ≤ maxLen := by
  rcases open_ints ht he hC h with ⟨hcs, _⟩ | ⟨x, l, c, zs, hcs, _, hl, hm, hz, _, hcell, hwz⟩
  · exact ⟨_, [], hcs, .sl0 _ _ _ (Nat.zero_le _), Nat.zero_le _⟩
  · refine ⟨_, zs.take l, hcs, ?_, by simp; omega⟩
    by_cases h0 : 0 < l
    · have hlz : l ≤ zs.length := by rw [hz]; split <;> omega
      have hlt : x.block < w.heap.size := by
        have h1 := hcell 0 (by omega)
        unfold World.cell? at h1
        rw [block_add] at h1
        by_cases hb : x.block < w.heap.size
        · exact hb
        · rw [Array.getElem?_eq_none (by omega)] at h1
          cases h1
      have hflat : ∀ m : List Int, flat (m.map DV.i) = m.map .i := by
        intro m
        induction m with
        | nil => rfl
        | cons n m ih => rw [List.map_cons, flat_cons, ih]; rfl
      refine .sl 0 _ x l c 1 ((zs.take l).map (.int .i64 ·)) (by simp; omega) h0 hl hm (fun e he => ?_) (ok_top _ _) hlt (fun _ => hlt) (fun h => by omega) (fun h => by cases h) (by rw [hflat]; simp) (fun j u hu => ?_) (fun j d u hc hu => ?_)
      · obtain ⟨n, _, rfl⟩ := List.mem_map.1 he
        rfl
      · rw [List.getElem?_map, Option.map_eq_some_iff] at hu
        obtain ⟨n, hn, rfl⟩ := hu
        rw [List.getElem?_take] at hn
        split at hn
        · have hj : j < zs.length := (List.getElem?_eq_some_iff.1 hn).1
          rw [hcell j hj, List.getD_eq_getElem?_getD, hn]
          rfl
        · cases hn
      · rw [hflat, List.getElem?_map, Option.map_eq_some_iff] at hc
        rw [List.getElem?_map, Option.map_eq_some_iff] at hu
        obtain ⟨n, h1, rfl⟩ := hc
        obtain ⟨n', h2, rfl⟩ := hu
        rw [h1] at h2
        injection h2 with h2
        subst h2
        exact .i _
    · have : l = 0 := by omega
      subst this
      exact .sl0 _ _ _ hm
theorem open_rss {t e f : TypeId} {v : Value} {d : DataW H} {p : List MemPlace} (ht : P.underlying t = some (.slice e)) (he : P.underlying e = some (.slice f)) (hf : P.underlying f = some (.int .i64)) (hC : P.cellsOf e = 1) (hD : P.cellsOf f = 1)
    (hval : Value.okWide P w r b0 t v) (h : DataW.Trod enc P w base spare held t v d p) :
    ∃ L : List (List Int), CR w w.heap.size (okb (fun _ => True) w.heap.size fun _ => none) (rss L) v ∧ L.length ≤ maxLen ∧ ∀ r ∈ L, r.length ≤ maxLen := by
  classical
  obtain ⟨A, len0, cap0, rfl⟩ := okWide_slice ht hval
  obtain ⟨fuel, h⟩ := h
  rcases open_slice ht h with ⟨h0, _⟩ | ⟨a, len, cap, m, n, D, Pl, hcs, hb, hl, hm, hmm, hx, hi⟩
  · simp [Value.cells] at h0
    obtain ⟨rfl, rfl, rfl⟩ := h0
    exact ⟨[], .sl0 _ _ _ (Nat.zero_le _), Nat.zero_le _, fun n hn => by cases hn⟩
  · simp [Value.cells] at hcs
    obtain ⟨rfl, rfl, rfl⟩ := hcs
    have each : ∀ i, i < len0 → ∃ (u : Value) (xs : List Int), w.cell? (a.add i) = some u ∧ CR w w.heap.size (okb (fun _ => True) w.heap.size fun _ => none) (.sl 0 (xs.map .i)) u ∧ xs.length ≤ maxLen := by
      intro i him
      obtain ⟨cs', hc, ht'⟩ := hi i (by rw [hmm]; split <;> omega)
      obtain ⟨u, xs, rfl, hcr, hlx⟩ := row_of he hf hD ht'
      rw [hC] at hc
      obtain ⟨_, _, hat⟩ := World.cells?_some hc
      have h1 := hat 0 (by omega)
      rw [Nat.mul_one, Go.Deep.add_add, Nat.add_zero] at h1
      exact ⟨u, xs, by rw [h1]; rfl, hcr, hlx⟩
    have hsel : ∃ (F : Nat → Value) (X : Nat → List Int), ∀ i, i < len0 → w.cell? (a.add i) = some (F i) ∧ CR w w.heap.size (okb (fun _ => True) w.heap.size fun _ => none) (.sl 0 ((X i).map .i)) (F i) ∧ (X i).length ≤ maxLen := by
      refine ⟨fun i => if h : i < len0 then (each i h).choose else undef, fun i => if h : i < len0 then (each i h).choose_spec.choose else [], fun i hi => ?_⟩
      simp only [dif_pos hi]
      exact (each i hi).choose_spec.choose_spec
    obtain ⟨F, X, hFX⟩ := hsel
    refine ⟨(List.range len0).map X, ?_, by simp; omega, fun r hr => ?_⟩
    · by_cases h0 : 0 < len0
      · have hlt : a.block < w.heap.size := by
          have h1 := (hFX 0 h0).1
          unfold World.cell? at h1
          rw [block_add] at h1
          by_cases hb : a.block < w.heap.size
          · exact hb
          · rw [Array.getElem?_eq_none (by omega)] at h1
            cases h1
        have hflat : ∀ m : List (List Int), flat (m.map eR) = m.map eR := by
          intro m
          induction m with
          | nil => rfl
          | cons n m ih => rw [List.map_cons, flat_cons, ih]; rfl
        unfold rss
        refine .sl 0 _ a len0 cap0 1 ((List.range len0).map F) (by simp) h0 hl hm (fun e he => ?_) (ok_top _ _) hlt (fun _ => hlt) (fun h => by omega) (fun h => by cases h) (by rw [hflat]; simp) (fun j u hu => ?_) (fun j d u hc hu => ?_)
        · obtain ⟨n, _, rfl⟩ := List.mem_map.1 he
          rfl
        · obtain ⟨h1, h2⟩ := List.getElem?_eq_some_iff.1 hu
          simp at h1 h2
          subst h2
          exact (hFX j h1).1
        · rw [hflat] at hc
          obtain ⟨h1, h2⟩ := List.getElem?_eq_some_iff.1 hu
          obtain ⟨h3, h4⟩ := List.getElem?_eq_some_iff.1 hc
          simp at h1 h2 h4
          subst h2
          subst h4
          exact (hFX j h1).2.1
      · have : len0 = 0 := by omega
        subst this
        exact .sl0 _ _ _ hm
    · obtain ⟨i, hi, rfl⟩ := List.mem_map.1 hr
      exact (hFX i (List.mem_range.1 hi)).2.2
end
end Go.Lg
