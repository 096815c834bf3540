/- Part 31 of a logical reading of translated Go: what a frame holds is said by lists, and each operation is proved against the model. No conditions. -/
import Derived.Test.YtadlmpjlkfbnfacLg30
import Derived.Test.YtadlmpjlkfbnfacLg24
import Derived.WalkKit
import Derived.ProofKit
import Derived.OpenShut
import Derived.ShutString
import Derived.Deep.Slices
import Derived.Deep.Fields
import Derived.ChangeSame
namespace Go.Lg
set_option linter.unusedSimpArgs false
set_option linter.unusedVariables false
open Go.RowKit Go.ChangeShapes Go.WideShapes Go.Deep
set_option linter.unusedVariables false

def bys (xs : List Nat) : DV := .sl 0 (xs.map .y)
def ins (xs : List Int) : DV := .sl 0 (xs.map .i)
def e2 (t : Int × Int) : DV := .st [.i t.1, .i t.2]
def rs2 (xs : List (Int × Int)) : DV := .sl 0 (xs.map e2)
def e3 (t : Int × Int × Int) : DV := .st [.i t.1, .i t.2.1, .i t.2.2]
def rs3 (xs : List (Int × Int × Int)) : DV := .sl 0 (xs.map e3)

theorem int_fit {a : Int} (h : (Lit.int .i64 a).wf = true) : -9223372036854775808 ≤ a ∧ a ≤ 9223372036854775807 := by
  simp [Lit.wf, IntKind.min, IntKind.max, IntKind.signed, IntKind.bits] at h; omega
theorem cr_str {w : World} {B : Nat} {ok : Nat → Prop} (a : ByteArray) : CR w B ok (.s a.data.toList) (.string a) := by
  have := CR.s (w := w) (B := B) (ok := ok) a.data.toList
  simpa using this

/-- A slice of structs of numbers that came in from outside. -/
theorem cr_rows {w : World} {B : Nat} {ok : Nat → Prop} (hB : B = w.heap.size) (hok : ∀ b, ok b) (nf : Nat) (hnf : 0 < nf) {x : Addr} {len cap : Nat} (hl : len ≤ cap) (hm : cap ≤ maxLen)
    (hc : ∀ i, i < len → ∀ j, j < nf → ∃ n, w.cell? (x.add (i * nf + j)) = some (.int .i64 n)) :
    ∃ f : Nat → Nat → Int, CR w B ok (.sl 0 ((List.range len).map fun i => .st ((List.range nf).map fun j => .i (f i j)))) (.slice (some x) len cap) := by
  classical
  have hf : ∃ f : Nat → Nat → Int, ∀ i, i < len → ∀ j, j < nf → w.cell? (x.add (i * nf + j)) = some (.int .i64 (f i j)) := by
    refine ⟨fun i j => if h : ∃ n, w.cell? (x.add (i * nf + j)) = some (.int .i64 n) then h.choose else 0, fun i hi j hj => ?_⟩
    have h := hc i hi j hj
    simp only [dif_pos h]
    exact h.choose_spec
  obtain ⟨f, hf⟩ := hf
  refine ⟨f, ?_⟩
  by_cases h0 : 0 < len
  · have hlt : x.block < w.heap.size := by
      have h1 := hf 0 h0 0 hnf
      unfold World.cell? at h1
      rw [block_add] at h1
      by_cases hb : x.block < w.heap.size
      · exact hb
      · rw [Array.getElem?_eq_none (by omega)] at h1
        cases h1
    have hflat : ∀ m, flat ((List.range m).map fun i => DV.st ((List.range nf).map fun j => .i (f i j))) = (List.range (m * nf)).map fun q => DV.i (f (q / nf) (q % nf)) := by
      intro m
      induction m with
      | zero => simp [flat]
      | succ m ih =>
        have ha : ∀ a b : List DV, flat (a ++ b) = flat a ++ flat b := fun a b => by simp [flat]
        rw [List.range_succ, List.map_append, ha, ih, Nat.succ_mul, List.range_add, List.map_append]
        congr 1
        simp only [List.map_cons, List.map_nil, flat, List.flatMap_cons, List.flatMap_nil, List.append_nil, DV.cells, List.map_map]
        apply List.map_congr_left
        intro j hj
        rw [List.mem_range] at hj
        simp only [Function.comp]
        rw [Nat.mul_comm m nf, Nat.mul_add_div hnf, Nat.mul_add_mod, Nat.div_eq_of_lt hj, Nat.mod_eq_of_lt hj, Nat.add_zero]
    have hq : ∀ q, q < len * nf → w.cell? (x.add q) = some (.int .i64 (f (q / nf) (q % nf))) := by
      intro q hq
      have h1 := hf (q / nf) (by rw [Nat.div_lt_iff_lt_mul hnf]; exact hq) (q % nf) (Nat.mod_lt _ hnf)
      rwa [Nat.mul_comm, Nat.div_add_mod] at h1
    refine .sl 0 _ x len cap nf ((List.range (len * nf)).map fun q => .int .i64 (f (q / nf) (q % nf))) (by simp) h0 hl hm (fun e he => ?_) (hok _) hlt (fun _ => by omega) (fun h => by omega) (fun h => by cases h) (by rw [hflat]; simp) (fun j u hu => ?_) (fun j c u hc hu => ?_)
    · obtain ⟨i, _, rfl⟩ := List.mem_map.1 he
      simp [DV.cells]
    · rw [List.getElem?_map, Option.map_eq_some_iff] at hu
      obtain ⟨q, hq', rfl⟩ := hu
      obtain ⟨h1, h2⟩ := List.getElem?_eq_some_iff.1 hq'
      simp only [List.length_range] at h1
      rw [List.getElem_range] at h2
      subst h2
      exact hq j h1
    · rw [hflat, List.getElem?_map, Option.map_eq_some_iff] at hc
      rw [List.getElem?_map, Option.map_eq_some_iff] at hu
      obtain ⟨q, h1, rfl⟩ := hc
      obtain ⟨q', h2, rfl⟩ := hu
      rw [h1] at h2
      injection h2 with h2
      subst h2
      exact .i _
  · have : len = 0 := by omega
    subst this
    exact .sl0 _ _ _ hm

section
variable {H : Type} {enc : TypeId × Value → H} {P : Program} {w : World} {base b0 : Nat} {r : Reach} {spare : Nat → Bool} {held : Bool}
/-- What the guide's page on structs says of a slice of structs of one-cell fields, over the kit's own reading of slices. -/
theorem open_rows {t e : TypeId} {fs : Array Field} {v : Value} {d : DataW H} {p : List MemPlace} (ht : P.underlying t = some (.slice e)) (he : P.underlying e = some (.struct fs))
    (hone : oneCellFields P fs = true) (hC : P.cellsOf e = fs.size) (hint : ∀ (j : Nat) (f : Field), fs[j]? = some f → P.underlying f.type = some (.int .i64)) (hval : Value.okWide P w r b0 t v) (h : DataW.Trod enc P w base spare held t v d p) :
    (v = .slice none 0 0) ∨ ∃ a len cap, v = .slice (some a) len cap ∧ len ≤ cap ∧ cap ≤ maxLen ∧ ∀ i, i < len → ∀ j, j < fs.size → ∃ n, w.cell? (a.add (i * fs.size + j)) = some (.int .i64 n) := by
  obtain ⟨A, len0, cap0, rfl⟩ := okWide_slice ht hval
  obtain ⟨fuel, h⟩ := h
  rcases open_slice ht h with ⟨h0, _⟩ | ⟨a, len, cap, m, n, D, Pl, hcs, hb, hl, hm, hmm, hx, hi⟩
  · left
    simpa [Value.cells] using h0
  · right
    simp only [Value.cells, List.cons.injEq, and_true] at hcs
    refine ⟨a, len, cap, hcs, hl, hm, fun i him j hj => ?_⟩
    obtain ⟨cs', hc, ht'⟩ := hi i (by rw [hmm]; split <;> omega)
    rw [hC] at hc
    obtain ⟨ys, n', hn', hy, hlen, hyl, hf⟩ := DataW.trod_struct he ht'
    obtain ⟨_, hcl, hat⟩ := World.cells?_some hc
    have hj' : fs[j]? = some fs[j] := Array.getElem?_eq_getElem hj
    obtain ⟨ho, hk⟩ := hone_of hone j _ hj'
    have hcell := hat j hj
    have hv : cs'[j]? = some (cs'[j]'(by omega)) := List.getElem?_eq_getElem (by omega)
    have h1 := hf j _ hj'
    rw [ho, hk] at h1
    have hone' : (cs'.drop j).take 1 = [cs'[j]'(by omega)] := by
      rw [List.drop_eq_getElem_cons (by omega)]
      rfl
    rw [hone'] at h1
    have hys : ys[j]? = some (ys[j]'(by omega)) := List.getElem?_eq_getElem (by omega)
    rw [hys] at h1
    obtain ⟨k, hk1, _⟩ := DataW.trod_int (hint j _ hj') h1
    refine ⟨k, ?_⟩
    simp only [List.cons.injEq, and_true] at hk1
    rw [← Go.Deep.add_add, hcell, hv, hk1]
theorem open_rs2 {t e : TypeId} {f0 f1 : Field} {v : Value} {d : DataW H} {p : List MemPlace} (ht : P.underlying t = some (.slice e)) (he : P.underlying e = some (.struct #[f0, f1]))
    (hone : oneCellFields P #[f0, f1] = true) (hC : P.cellsOf e = 2) (h0 : P.underlying f0.type = some (.int .i64)) (h1 : P.underlying f1.type = some (.int .i64)) (hval : Value.okWide P w r b0 t v) (h : DataW.Trod enc P w base spare held t v d p) :
    ∃ xs, CR w w.heap.size (okb (fun _ => True) w.heap.size fun _ => none) (rs2 xs) v ∧ xs.length ≤ maxLen := by
  rcases open_rows ht he hone hC (fun j f hj => by
    match j, hj with
    | 0, hj => simp at hj; subst hj; exact h0
    | 1, hj => simp at hj; subst hj; exact h1
    | j + 2, hj => simp at hj) hval h with rfl | ⟨a, len, cap, rfl, hl, hm, hc⟩
  · exact ⟨[], .sl0 _ _ _ (Nat.zero_le _), Nat.zero_le _⟩
  · obtain ⟨f, hf⟩ := cr_rows (w := w) (B := w.heap.size) (ok := okb (fun _ => True) w.heap.size fun _ => none) rfl (ok_top _) 2 (by omega) hl hm (by simpa using hc)
    refine ⟨(List.range len).map fun i => (f i 0, f i 1), ?_, by simp; omega⟩
    unfold rs2
    rw [List.map_map]
    exact hf
theorem open_rs3 {t e : TypeId} {f0 f1 f2 : Field} {v : Value} {d : DataW H} {p : List MemPlace} (ht : P.underlying t = some (.slice e)) (he : P.underlying e = some (.struct #[f0, f1, f2]))
    (hone : oneCellFields P #[f0, f1, f2] = true) (hC : P.cellsOf e = 3) (h0 : P.underlying f0.type = some (.int .i64)) (h1 : P.underlying f1.type = some (.int .i64)) (h2 : P.underlying f2.type = some (.int .i64)) (hval : Value.okWide P w r b0 t v) (h : DataW.Trod enc P w base spare held t v d p) :
    ∃ xs, CR w w.heap.size (okb (fun _ => True) w.heap.size fun _ => none) (rs3 xs) v ∧ xs.length ≤ maxLen := by
  rcases open_rows ht he hone hC (fun j f hj => by
    match j, hj with
    | 0, hj => simp at hj; subst hj; exact h0
    | 1, hj => simp at hj; subst hj; exact h1
    | 2, hj => simp at hj; subst hj; exact h2
    | j + 3, hj => simp at hj) hval h with rfl | ⟨a, len, cap, rfl, hl, hm, hc⟩
  · exact ⟨[], .sl0 _ _ _ (Nat.zero_le _), Nat.zero_le _⟩
  · obtain ⟨f, hf⟩ := cr_rows (w := w) (B := w.heap.size) (ok := okb (fun _ => True) w.heap.size fun _ => none) rfl (ok_top _) 3 (by omega) hl hm (by simpa using hc)
    refine ⟨(List.range len).map fun i => (f i 0, f i 1, f i 2), ?_, by simp; omega⟩
    unfold rs3
    rw [List.map_map]
    exact hf
theorem open_nums {t e : TypeId} {k : IntKind} {v : Value} {d : DataW H} {p : List MemPlace} {f : Int → DV} (hf : ∀ n, (Lit.int k n).wf = true → CR w w.heap.size (okb (fun _ => True) w.heap.size fun _ => none) (f n) (.int k n)) (ht : P.underlying t = some (.slice e)) (he : P.underlying e = some (.int k)) (hC : P.cellsOf e = 1)
    (hval : Value.okWide P w r b0 t v) (h : DataW.Trod enc P w base spare held t v d p) :
    ∃ xs : List Int, CR w w.heap.size (okb (fun _ => True) w.heap.size fun _ => none) (.sl 0 (xs.map f)) v ∧ xs.length ≤ maxLen ∧ ∀ n ∈ xs, (Lit.int k n).wf = true := by
  obtain ⟨A, len0, cap0, rfl⟩ := okWide_slice ht hval
  obtain ⟨fuel, h⟩ := h
  rcases open_ints ht he hC h with ⟨hcs, _⟩ | ⟨x, l, c, zs, hcs, _, hl, hm, hz, _, hcell, hwz⟩
  · simp [Value.cells] at hcs
    obtain ⟨rfl, rfl, rfl⟩ := hcs
    exact ⟨[], .sl0 _ _ _ (Nat.zero_le _), Nat.zero_le _, fun n hn => by cases hn⟩
  · simp [Value.cells] at hcs
    obtain ⟨rfl, rfl, rfl⟩ := hcs
    by_cases hs : spare x.block = true
    · rw [if_pos hs] at hz
      refine ⟨zs.take len0, cr_row rfl (ok_top _) hf (.inr ⟨x, rfl, hl, hm, hz, hcell, hwz⟩), by simp; omega, fun n hn => hwz n (List.mem_of_mem_take hn)⟩
    · rw [if_neg hs] at hz
      by_cases h0 : 0 < len0
      · have hlt : x.block < w.heap.size := by
          have h1 := hcell 0 (by omega)
          unfold World.cell? at h1
          rw [block_add] at h1
          by_cases hb : x.block < w.heap.size
          · exact hb
          · rw [Array.getElem?_eq_none (by omega)] at h1
            cases h1
        have hone : ∀ n ∈ zs, (f n).cells = [f n] := fun n hn => ((hf n (hwz n hn)).cells).1
        have hflat : ∀ l : List Int, (∀ n ∈ l, n ∈ zs) → flat (l.map f) = l.map f := by
          intro l
          induction l with
          | nil => intro _; rfl
          | cons n l ih =>
            intro hn
            rw [List.map_cons, flat_cons, ih (fun m hm => hn m (List.mem_cons_of_mem _ hm)), hone n (hn n (List.mem_cons_self ..))]
            rfl
        have hfl := hflat zs (fun _ h => h)
        refine ⟨zs, .sl 0 _ x len0 cap0 1 (zs.map (.int k ·)) (by simp [hz]) h0 hl hm (fun e he => ?_) (ok_top _ _) hlt (fun _ => by omega) (fun h => by omega) (fun h => by cases h) (by rw [hfl]; simp) (fun j u hu => ?_) (fun j c u hc hu => ?_), by omega, hwz⟩
        · obtain ⟨n, hn, rfl⟩ := List.mem_map.1 he
          rw [hone n hn]; rfl
        · rw [List.getElem?_map, Option.map_eq_some_iff] at hu
          obtain ⟨n, hn, rfl⟩ := hu
          have hj : j < zs.length := (List.getElem?_eq_some_iff.1 hn).1
          rw [hcell j hj, List.getD_eq_getElem?_getD, hn]
          rfl
        · rw [hfl, List.getElem?_map, Option.map_eq_some_iff] at hc
          rw [List.getElem?_map, Option.map_eq_some_iff] at hu
          obtain ⟨n, hn, rfl⟩ := hc
          obtain ⟨n', hn', rfl⟩ := hu
          rw [hn] at hn'
          injection hn' with hn'
          subst hn'
          exact hf n (hwz n (List.mem_of_getElem? hn))
      · have : len0 = 0 := by omega
        subst this
        have : zs = [] := List.eq_nil_of_length_eq_zero hz
        subst this
        exact ⟨[], .sl0 _ _ _ hm, Nat.zero_le _, fun n hn => by cases hn⟩
theorem open_ins {t e : TypeId} {v : Value} {d : DataW H} {p : List MemPlace} (ht : P.underlying t = some (.slice e)) (he : P.underlying e = some (.int .i64)) (hC : P.cellsOf e = 1)
    (hval : Value.okWide P w r b0 t v) (h : DataW.Trod enc P w base spare held t v d p) :
    ∃ xs, CR w w.heap.size (okb (fun _ => True) w.heap.size fun _ => none) (ins xs) v ∧ xs.length ≤ maxLen := by
  obtain ⟨xs, h1, h2, _⟩ := open_nums (f := .i) cr_i64 ht he hC hval h
  exact ⟨xs, h1, h2⟩
theorem open_bys {t e : TypeId} {v : Value} {d : DataW H} {p : List MemPlace} (ht : P.underlying t = some (.slice e)) (he : P.underlying e = some (.int .u8)) (hC : P.cellsOf e = 1)
    (hval : Value.okWide P w r b0 t v) (h : DataW.Trod enc P w base spare held t v d p) :
    ∃ xs, CR w w.heap.size (okb (fun _ => True) w.heap.size fun _ => none) (bys xs) v ∧ xs.length ≤ maxLen ∧ ∀ y ∈ xs, y < 256 := by
  obtain ⟨xs, h1, h2, h3⟩ := open_nums (f := fun n => .y n.toNat) cr_u8 ht he hC hval h
  refine ⟨xs.map Int.toNat, by unfold bys; rw [List.map_map]; exact h1, by simpa using h2, fun y hy => ?_⟩
  obtain ⟨n, hn, rfl⟩ := List.mem_map.1 hy
  have := h3 n hn
  simp [Lit.wf, IntKind.min, IntKind.max, IntKind.signed, IntKind.bits] at this; omega
end
end Go.Lg
