/- Part 24 of a logical reading of translated Go: what a frame holds is said by lists, and each operation is proved against the model. No conditions. -/
import Derived.Test.YtadlmpjlkfbnfacLg23
namespace Go.Lg
open Go.RowKit
set_option linter.unusedVariables false

/-- A slice of numbers that came in from outside. -/
theorem cr_row {w : World} {B : Nat} {ok : Nat → Prop} {a : Option Addr} {len cap : Nat} {zs : List Int} {k : IntKind} {f : Int → DV} (hB : B = w.heap.size) (hok : ∀ b, ok b) (hf : ∀ n, (Lit.int k n).wf = true → CR w B ok (f n) (.int k n))
    (h : (a = none ∧ len = 0 ∧ cap = 0 ∧ zs = []) ∨ ∃ x, a = some x ∧ len ≤ cap ∧ cap ≤ maxLen ∧ zs.length = cap ∧ (∀ i, i < zs.length → w.cell? (x.add i) = some (.int k (zs.getD i 0))) ∧ ∀ n ∈ zs, (Lit.int k n).wf = true) :
    CR w B ok (.sl 0 ((zs.take len).map f)) (.slice a len cap) := by
  rcases h with ⟨rfl, rfl, rfl, rfl⟩ | ⟨x, rfl, hl, hm, hz, hcell, hwf⟩
  · exact .sl0 _ _ _ (Nat.zero_le _)
  · by_cases h0 : 0 < len
    · have hlt : x.block < w.heap.size := by
        have h1 := hcell 0 (by omega)
        unfold World.cell? at h1
        rw [block_add] at h1
        by_cases hb : x.block < w.heap.size
        · exact hb
        · rw [Array.getElem?_eq_none (by omega)] at h1
          cases h1
      have hone : ∀ n ∈ zs, (f n).cells = [f n] := fun n hn => ((hf n (hwf n hn)).cells).1
      have hsz : ∀ e ∈ (zs.take len).map f, e.cells.length = 1 := by
        intro e he
        obtain ⟨n, hn, rfl⟩ := List.mem_map.1 he
        rw [hone n (List.mem_of_mem_take hn)]
        rfl
      have hflat : ∀ l : List Int, (∀ n ∈ l, n ∈ zs) → flat (l.map f) = l.map f := by
        intro l
        induction l with
        | nil => intro _; rfl
        | cons n l ih =>
          intro hn
          rw [List.map_cons, flat_cons, ih (fun m hm => hn m (List.mem_cons_of_mem _ hm)), hone n (hn n (List.mem_cons_self ..))]
          rfl
      have hfl := hflat (zs.take len) (fun n hn => List.mem_of_mem_take hn)
      refine .sl 0 _ x len cap 1 ((zs.take len).map (.int k ·)) (by simp [hz]; omega) h0 hl hm hsz (hok _) hlt (fun _ => by omega) (fun h => by omega) (fun h => by cases h) (by rw [hfl]; simp) (fun j u hu => ?_) (fun j c u hc hu => ?_)
      · rw [List.getElem?_map, Option.map_eq_some_iff] at hu
        obtain ⟨n, hn, rfl⟩ := hu
        rw [List.getElem?_take] at hn
        split at hn
        · have hj : j < zs.length := (List.getElem?_eq_some_iff.1 hn).1
          rw [hcell j hj, List.getD_eq_getElem?_getD, hn]
          rfl
        · cases hn
      · rw [hfl, List.getElem?_map, Option.map_eq_some_iff] at hc
        rw [List.getElem?_map, Option.map_eq_some_iff] at hu
        obtain ⟨n, hn, rfl⟩ := hc
        obtain ⟨n', hn', rfl⟩ := hu
        rw [hn] at hn'
        injection hn' with hn'
        subst hn'
        exact hf n (hwf n (List.mem_of_mem_take (List.mem_of_getElem? hn)))
    · have : len = 0 := by omega
      subst this
      exact .sl0 _ _ _ hm
theorem cr_i64 {w : World} {B : Nat} {ok : Nat → Prop} (n : Int) (_ : (Lit.int .i64 n).wf = true) : CR w B ok (.i n) (.int .i64 n) := .i n
theorem cr_u8 {w : World} {B : Nat} {ok : Nat → Prop} (n : Int) (h : (Lit.int .u8 n).wf = true) : CR w B ok (.y n.toNat) (.int .u8 n) := by
  have h1 : 0 ≤ n ∧ n < 256 := by simp [Lit.wf, IntKind.min, IntKind.max, IntKind.signed, IntKind.bits] at h; omega
  have := CR.y (w := w) (B := B) (ok := ok) n.toNat (by omega)
  rwa [Int.toNat_of_nonneg h1.1] at this
theorem ok_top (B : Nat) (b : Nat) : okb (fun _ => True) B (fun _ => none) b := ⟨fun _ => trivial, fun k p h => (by cases h)⟩
end Go.Lg
