/- Part E of a logical reading of translated Go: what a frame holds is said by lists, and each operation is proved against the model. No conditions. -/
import Derived.Test.YthadcdlggmahfaaLgD
import Derived.Shelf.Spec.SlicesInsertGrow
import Derived.Shelf.Spec.SlicesGrow
set_option linter.unusedSectionVars false
set_option linter.unusedVariables false
set_option linter.unusedSimpArgs false
namespace Go.Lg
variable [GL]
set_option linter.unusedSimpArgs false
set_option linter.unusedVariables false
open Go.RowKit Go.ChangeShapes Go.WideShapes Go.Deep

/-! ### Slices of slices of numbers -/
def eR (r : List Int) : DV := .sl 0 (r.map .i)
def rss (L : List (List Int)) : DV := .sl 0 (L.map eR)
section
variable {H : Type} {enc : TypeId × Value → H} {P : Program} {w : World} {base b0 : Nat} {r : Reach} {spare : Nat → Bool} {held : Bool}
theorem row_of {t e : TypeId} {fuel : Nat} {cs : List Value} {x0 : DataW H × List MemPlace} (ht : P.underlying t = some (.slice e)) (he : P.underlying e = some (.int .i64)) (hC : P.cellsOf e = 1)
    (h : DataW.trod enc P w base spare held fuel t cs = some x0) :
    ∃ (v : Value) (xs : List Int), cs = [v] ∧ CR w w.heap.size (okb (fun _ => True) w.heap.size fun _ => none) (.sl 0 (xs.map .i)) v ∧ xs.length ≤ maxLen := by
  rcases open_ints ht he hC h with ⟨hcs, _⟩ | ⟨x, l, c, zs, hcs, _, hl, hm, hz, _, hcell, hwz⟩
  · exact ⟨_, [], hcs, .sl0 _ _ _ (Nat.zero_le _), Nat.zero_le _⟩
  · refine ⟨_, zs.take l, hcs, ?_, by simp; omega⟩
    by_cases h0 : 0 < l
    · have hlz : l ≤ zs.length := by rw [hz]; split <;> omega
      have hlt : x.block < w.heap.size := by
        have h1 := hcell 0 (by omega)
        unfold World.cell? at h1
        rw [block_add] at h1
        by_cases hb : x.block < w.heap.size
        · exact hb
        · rw [Array.getElem?_eq_none (by omega)] at h1
          cases h1
      have hflat : ∀ m : List Int, flat (m.map DV.i) = m.map .i := by
        intro m
        induction m with
        | nil => rfl
        | cons n m ih => rw [List.map_cons, flat_cons, ih]; rfl
      refine .sl 0 _ x l c 1 ((zs.take l).map (.int .i64 ·)) (by simp; omega) h0 hl hm (fun e he => ?_) (ok_top _ _) hlt (fun _ => hlt) (fun h => by omega) (fun h => by cases h) (by rw [hflat]; simp) (fun j u hu => ?_) (fun j d u hc hu => ?_)
      · obtain ⟨n, _, rfl⟩ := List.mem_map.1 he
        rfl
      · rw [List.getElem?_map, Option.map_eq_some_iff] at hu
        obtain ⟨n, hn, rfl⟩ := hu
        rw [List.getElem?_take] at hn
        split at hn
        · have hj : j < zs.length := (List.getElem?_eq_some_iff.1 hn).1
          rw [hcell j hj, List.getD_eq_getElem?_getD, hn]
          rfl
        · cases hn
      · rw [hflat, List.getElem?_map, Option.map_eq_some_iff] at hc
        rw [List.getElem?_map, Option.map_eq_some_iff] at hu
        obtain ⟨n, h1, rfl⟩ := hc
        obtain ⟨n', h2, rfl⟩ := hu
        rw [h1] at h2
        injection h2 with h2
        subst h2
        exact .i _
    · have : l = 0 := by omega
      subst this
      exact .sl0 _ _ _ hm
theorem open_rss {t e f : TypeId} {v : Value} {d : DataW H} {p : List MemPlace} (ht : P.underlying t = some (.slice e)) (he : P.underlying e = some (.slice f)) (hf : P.underlying f = some (.int .i64)) (hC : P.cellsOf e = 1) (hD : P.cellsOf f = 1)
    (hval : Value.okWide P w r b0 t v) (h : DataW.Trod enc P w base spare held t v d p) :
    ∃ L : List (List Int), CR w w.heap.size (okb (fun _ => True) w.heap.size fun _ => none) (rss L) v ∧ L.length ≤ maxLen ∧ ∀ r ∈ L, r.length ≤ maxLen := by
  classical
  obtain ⟨A, len0, cap0, rfl⟩ := okWide_slice ht hval
  obtain ⟨fuel, h⟩ := h
  rcases open_slice ht h with ⟨h0, _⟩ | ⟨a, len, cap, m, n, D, Pl, hcs, hb, hl, hm, hmm, hx, hi⟩
  · simp [Value.cells] at h0
    obtain ⟨rfl, rfl, rfl⟩ := h0
    exact ⟨[], .sl0 _ _ _ (Nat.zero_le _), Nat.zero_le _, fun n hn => by cases hn⟩
  · simp [Value.cells] at hcs
    obtain ⟨rfl, rfl, rfl⟩ := hcs
    have each : ∀ i, i < len0 → ∃ (u : Value) (xs : List Int), w.cell? (a.add i) = some u ∧ CR w w.heap.size (okb (fun _ => True) w.heap.size fun _ => none) (.sl 0 (xs.map .i)) u ∧ xs.length ≤ maxLen := by
      intro i him
      obtain ⟨cs', hc, ht'⟩ := hi i (by rw [hmm]; split <;> omega)
      obtain ⟨u, xs, rfl, hcr, hlx⟩ := row_of he hf hD ht'
      rw [hC] at hc
      obtain ⟨_, _, hat⟩ := World.cells?_some hc
      have h1 := hat 0 (by omega)
      rw [Nat.mul_one, Go.Deep.add_add, Nat.add_zero] at h1
      exact ⟨u, xs, by rw [h1]; rfl, hcr, hlx⟩
    have hsel : ∃ (F : Nat → Value) (X : Nat → List Int), ∀ i, i < len0 → w.cell? (a.add i) = some (F i) ∧ CR w w.heap.size (okb (fun _ => True) w.heap.size fun _ => none) (.sl 0 ((X i).map .i)) (F i) ∧ (X i).length ≤ maxLen := by
      refine ⟨fun i => if h : i < len0 then (each i h).choose else undef, fun i => if h : i < len0 then (each i h).choose_spec.choose else [], fun i hi => ?_⟩
      simp only [dif_pos hi]
      exact (each i hi).choose_spec.choose_spec
    obtain ⟨F, X, hFX⟩ := hsel
    refine ⟨(List.range len0).map X, ?_, by simp; omega, fun r hr => ?_⟩
    · by_cases h0 : 0 < len0
      · have hlt : a.block < w.heap.size := by
          have h1 := (hFX 0 h0).1
          unfold World.cell? at h1
          rw [block_add] at h1
          by_cases hb : a.block < w.heap.size
          · exact hb
          · rw [Array.getElem?_eq_none (by omega)] at h1
            cases h1
        have hflat : ∀ m : List (List Int), flat (m.map eR) = m.map eR := by
          intro m
          induction m with
          | nil => rfl
          | cons n m ih => rw [List.map_cons, flat_cons, ih]; rfl
        unfold rss
        refine .sl 0 _ a len0 cap0 1 ((List.range len0).map F) (by simp) h0 hl hm (fun e he => ?_) (ok_top _ _) hlt (fun _ => hlt) (fun h => by omega) (fun h => by cases h) (by rw [hflat]; simp) (fun j u hu => ?_) (fun j d u hc hu => ?_)
        · obtain ⟨n, _, rfl⟩ := List.mem_map.1 he
          rfl
        · obtain ⟨h1, h2⟩ := List.getElem?_eq_some_iff.1 hu
          simp at h1 h2
          subst h2
          exact (hFX j h1).1
        · rw [hflat] at hc
          obtain ⟨h1, h2⟩ := List.getElem?_eq_some_iff.1 hu
          obtain ⟨h3, h4⟩ := List.getElem?_eq_some_iff.1 hc
          simp at h1 h2 h4
          subst h2
          subst h4
          exact (hFX j h1).2.1
      · have : len0 = 0 := by omega
        subst this
        exact .sl0 _ _ _ hm
    · obtain ⟨i, hi, rfl⟩ := List.mem_map.1 hr
      exact (hFX i (List.mem_range.1 hi)).2.2
end
end Go.Lg

namespace Go.Lg
open Go.RowKit Go.Proofs Go.Shelf
set_option linter.unusedVariables false

/-! ### The library's slices.Insert over rows of numbers -/
theorem setCells_rest (b : Nat) : ∀ (vs : List Value) (o : Nat) (w : World), (w.setCells b o vs).os = w.os ∧ (w.setCells b o vs).tape = w.tape ∧ (w.setCells b o vs).output = w.output ∧ (w.setCells b o vs).heap.size = w.heap.size ∧ ∀ k, k ≠ b → (w.setCells b o vs).heap[k]? = w.heap[k]?
  | [], o, w => ⟨rfl, rfl, rfl, rfl, fun _ _ => rfl⟩
  | v :: r, o, w => by
    obtain ⟨h1, h2, h3, h4, h5⟩ := setCells_rest b r (o + 1) (w.setCell ⟨b, o, none⟩ v)
    refine ⟨h1, h2, h3, h4.trans (by simp [World.setCell]), fun k hk => (h5 k hk).trans ?_⟩
    simp only [World.setCell, Array.getElem?_modify]
    rw [if_neg (fun e => hk e.symm)]
theorem setCells_heap (b : Nat) : ∀ (vs : List Value) (o : Nat) (w : World) (cur : Array Value) (ty : TypeId) (fz : Nat × Nat), w.heap[b]? = some (.cells cur ty fz) → o + vs.length ≤ cur.size →
    (w.setCells b o vs).heap[b]? = some (.cells (cur.toList.take o ++ vs ++ cur.toList.drop (o + vs.length)).toArray ty fz)
  | [], o, w, cur, ty, fz, h, _ => by simp [World.setCells, h]
  | v :: r, o, w, cur, ty, fz, h, hl => by
    simp only [List.length_cons] at hl
    have h1 : (w.setCell ⟨b, o, none⟩ v).heap[b]? = some (.cells (cur.setIfInBounds o v) ty fz) := by
      simp only [World.setCell, Array.getElem?_modify, if_true, h, Option.map_some]
      simp
    have := setCells_heap b r (o + 1) _ _ ty fz h1 (by simp; omega)
    rw [World.setCells, this]
    congr 3
    have ho : o < cur.toList.length := by simp; omega
    rw [Array.toList_setIfInBounds]
    generalize cur.toList = l at *
    have e1 : (l.set o v).take (o + 1) = l.take o ++ [v] := by
      rw [List.take_set, List.take_add_one, List.set_append_right _ _ (by rw [List.length_take]; exact Nat.min_le_left _ _)]
      simp [List.length_take, Nat.min_eq_left (Nat.le_of_lt ho), List.getElem?_eq_getElem ho]
    have e2 : (l.set o v).drop (o + 1 + r.length) = l.drop (o + 1 + r.length) := by rw [List.drop_set, if_pos (by omega)]
    rw [e1, e2, List.append_assoc, List.append_assoc, List.append_assoc]
    simp only [List.length_cons, List.singleton_append, List.cons_append, show o + 1 + r.length = o + (r.length + 1) by omega]
    rfl
theorem alloc_heap (w : World) (o : Obj) : (w.alloc o).heap[w.heap.size]? = some o := by
  show (w.heap.push o)[w.heap.size]? = _
  simp
theorem over_room {l xv : List Value} {n m : Nat} (hx : xv.length = m) (hn : n + m ≤ l.length) : (l.take n ++ xv ++ l.drop (n + m)).take (n + m) = l.take n ++ xv :=
  List.take_left' (by simp; omega)
theorem over_shift {l xv : List Value} {a n m : Nat} (hx : xv.length = m) (ha : a ≤ n) (hn : n + m ≤ l.length) :
    ((l.take (a + m) ++ (l.take n).drop a ++ l.drop (a + m + (n - a))).take a ++ xv ++ (l.take (a + m) ++ (l.take n).drop a ++ l.drop (a + m + (n - a))).drop (a + m)).take (n + m) = (l.take n).take a ++ xv ++ (l.take n).drop a := by
  have t1 : (l.take (a + m) ++ (l.take n).drop a ++ l.drop (a + m + (n - a))).take a = (l.take n).take a := by
    rw [List.append_assoc, List.take_append_of_le_length (by simp; omega), List.take_take, List.take_take, Nat.min_eq_left (by omega), Nat.min_eq_left ha]
  have d1 : (l.take (a + m) ++ (l.take n).drop a ++ l.drop (a + m + (n - a))).drop (a + m) = (l.take n).drop a ++ l.drop (a + m + (n - a)) := by
    rw [List.append_assoc]
    exact List.drop_left' (by simp; omega)
  rw [t1, d1, ← List.append_assoc]
  exact List.take_left' (by simp; omega)
theorem over_grow {l xs xv : List Value} {a n m : Nat} (hx : xv.length = m) (hxs : xs.length = n) (ha : a ≤ n) (hn : n + m ≤ l.length) (ht : l.take a = xs.take a) :
    ((l.take a ++ xv ++ l.drop (a + m)).take (a + m) ++ xs.drop a ++ (l.take a ++ xv ++ l.drop (a + m)).drop (a + m + (n - a))).take (n + m) = xs.take a ++ xv ++ xs.drop a := by
  have t1 : (l.take a ++ xv ++ l.drop (a + m)).take (a + m) = xs.take a ++ xv := by
    rw [List.take_left' (by simp; omega), ht]
  rw [t1]
  exact List.take_left' (by simp; omega)
/-- What a road of it leaves behind. -/
def InsPost (w : World) (hv : Value) (n m a : Nat) (xs0 xv : List Value) (e : Ending) (w' : World) : Prop :=
  ∃ v' e2, e = .returned v' ∧ w'.ownsRow 0 e2 1 v' (n + m) (xs0.take a ++ xv ++ xs0.drop a) ∧ w'.os = w.os ∧ w'.tape = w.tape ∧ w'.output = w.output ∧ w.heap.size ≤ w'.heap.size ∧
    (∀ b, b < w.heap.size → hv.ownBlock ≠ some b → w'.heap[b]? = w.heap[b]?) ∧ (v'.ownBlock = hv.ownBlock ∨ ∃ g, v'.ownBlock = some g ∧ w.heap.size ≤ g)
section
variable {P : Program} {ρ : Ren}
theorem cell_of {w : World} {b : Nat} {cur : Array Value} {ty : TypeId} {n : Nat} {xs : List Value} (hb : w.heap[b]? = some (.cells cur ty (0, 0))) (ht : cur.toList.take (n * 1) = xs) : ∀ (j : Nat) (v : Value), xs[j]? = some v → w.cell? ⟨b, 0 + j, none⟩ = some v := by
  intro j v hj
  subst ht
  rw [List.getElem?_take] at hj
  split at hj
  · simp only [World.cell?, hb]
    simpa using hj
  · cases hj
theorem frozen_of {w : World} {b j : Nat} {cur : Array Value} {ty : TypeId} (hb : w.heap[b]? = some (.cells cur ty (0, 0))) : w.frozen? ⟨b, j, none⟩ = false := by
  simp [World.frozen?, hb]
theorem ins_run (L : Lays2.n21 P ρ) {w : World} {hv hv2 : Value} {n m a : Nat} {ty ty2 : TypeId} {xs0 xv : List Value} (h1 : w.ownsRow 0 ty 1 hv n xs0) (h2 : w.ownsRow 0 ty2 1 hv2 m xv) (hm : 0 < m) (ha : a ≤ n) (hb : n + m ≤ 1073741824)
    (hne : ∀ g, hv.ownBlock = some g → hv2.ownBlock ≠ some g) (c1 : ∀ v ∈ xs0, v.oneCell' = true) (c2 : ∀ v ∈ xv, v.oneCell' = true) : Calls P (ρ.f 21) #[hv, .int .i64 a, hv2] w (InsPost w hv n m a xs0 xv) := by
  obtain ⟨l1, h1⟩ := h1
  obtain ⟨l2, h2⟩ := h2
  rw [Nat.mul_one] at l1 l2
  rcases h2 with ⟨_, h2⟩ | ⟨vb, vc, cur2, rfl, _, hvb, hvn, hvc, hvs, hvt⟩
  · omega
  have V := cell_of hvb hvt
  have hvlt : vb < w.heap.size := (Array.getElem?_eq_some_iff.1 hvb).1
  have hmx : maxLen = 9223372036854775807 := rfl
  rcases h1 with ⟨rfl, hn0⟩ | ⟨b, c, cur, rfl, _, hbb, hbn, hbc, hbs, hbt⟩
  · subst hn0
    have ha0 : a = 0 := by omega
    subst ha0
    have hx0 : xs0 = [] := List.eq_nil_of_length_eq_zero l1
    subst hx0
    refine (Any2.slices_Insert_int_end_grow L none 0 0 vb 0 m vc [] xv w hm (Nat.le_refl _) (by omega) (by omega) rfl l2 (fun _ => rfl) (fun a h => by cases h) V c2).mono fun e w' ⟨he, hw⟩ => ?_
    subst hw
    have hge := grownCap_ge w (0 + m) 0 (ρ.t 3)
    refine ⟨_, ρ.t 3, he, ⟨by simp only [List.length_append, List.length_take, List.length_drop, List.length_nil]; omega, .inr ⟨w.heap.size, _, _, rfl, Nat.zero_le _, alloc_heap w.drew _, hge, grownCap_le_maxLen w _ _ _ (by omega), ?_, ?_⟩⟩, rfl, rfl, rfl, by rw [World.size_alloc]; exact Nat.le_succ _, fun b hb' _ => ?_, .inr ⟨_, rfl, Nat.le_refl _⟩⟩
    · have hge' : m ≤ grownCap w m 0 (ρ.t 3) := grownCap_ge w m 0 _
      simp only [Array.size_append, List.size_toArray, size_zeroCells, List.nil_append, l2, Value.cells]
      simp; omega
    · simp only [Array.toList_append, List.nil_append, List.take_zero, List.drop_nil, List.append_nil]
      rw [show (0 + m) * 1 = xv.length by omega]
      exact List.take_left
    · exact Below.heap_alloc w.drew _ b hb'
  · have C := cell_of hbb hbt
    have hblt : b < w.heap.size := (Array.getElem?_eq_some_iff.1 hbb).1
    have hvne : vb ≠ b := fun e => hne b rfl (by rw [← e]; rfl)
    have hdr : (World.drew w).heap[b]? = some (.cells cur ty (0, 0)) := hbb
    rw [Nat.mul_one] at hbs hbt hvs hvt
    have hsp : ∀ j, j < c → (w.cell? ⟨b, 0 + j, none⟩).isSome = true := fun j hj => by
      simp only [World.cell?, hbb]
      simp; omega
    by_cases hroom : n + m ≤ c
    · by_cases hi : a < n
      · refine (Any2.slices_Insert_int_shift L b 0 n c a vb 0 m vc xs0 xv w hi hm hroom (by omega) hvne l1 l2 C (fun j hj => hsp j (by omega)) (fun j _ => frozen_of hbb) V c1 c2 ty2 ty cur2.size cur.size (by simp [World.shape?, hvb]) (by simp [World.shape?, hbb]) (by omega) (frozen_of hvb) (frozen_of hvb)).mono fun e w' ⟨he, hw⟩ => ?_
        have s1 := setCells_heap b (xs0.drop a) (0 + (a + m)) w.drew cur ty (0, 0) hdr (by simp; omega)
        have s2 := setCells_heap b xv (0 + a) _ _ ty (0, 0) s1 (by simp; omega)
        obtain ⟨r1, r2, r3, r4, r5⟩ := setCells_rest b (xs0.drop a) (0 + (a + m)) w.drew
        obtain ⟨q1, q2, q3, q4, q5⟩ := setCells_rest b xv (0 + a) (w.drew.setCells b (0 + (a + m)) (xs0.drop a))
        rw [← hw] at s2 q1 q2 q3 q4 q5
        refine ⟨_, ty, he, ⟨by simp only [List.length_append, List.length_take, List.length_drop]; omega, .inr ⟨b, c, _, rfl, Nat.zero_le _, s2, hroom, hbc, ?_, ?_⟩⟩, q1.trans r1, q2.trans r2, q3.trans r3, by rw [q4, r4]; exact Nat.le_refl _, fun k hk hkb => ?_, .inl rfl⟩
        · simp; omega
        · simp only [List.toList_toArray, Nat.mul_one, Nat.zero_add]
          have e0 : cur.toList.length = c := by simpa using hbs
          generalize cur.toList = l at *
          subst hbt
          have := over_shift (l := l) (n := n) l2 (Nat.le_of_lt hi) (by omega)
          simpa [l2, l1, List.length_drop, Nat.min_eq_left (show n ≤ l.length by omega)] using this
        · have hkb' : k ≠ b := fun e => hkb (by rw [e]; rfl)
          rw [q5 k hkb', r5 k hkb']; rfl
      · have e : a = n := by omega
        subst e
        refine (Any2.slices_Insert_int_end_room L b 0 a c vb 0 m vc xv w hm hroom (by omega) l2 (fun j hj => by rw [Nat.add_assoc]; exact hsp _ (by omega)) (fun j _ => frozen_of hbb) V c2).mono fun e w' ⟨he, hw⟩ => ?_
        have s2 := setCells_heap b xv (0 + a) w cur ty (0, 0) hbb (by omega)
        obtain ⟨q1, q2, q3, q4, q5⟩ := setCells_rest b xv (0 + a) w
        rw [← hw] at s2 q1 q2 q3 q4 q5
        refine ⟨_, ty, he, ⟨by simp only [List.length_append, List.length_take, List.length_drop]; omega, .inr ⟨b, c, _, rfl, Nat.zero_le _, s2, hroom, hbc, ?_, ?_⟩⟩, q1, q2, q3, by rw [q4]; exact Nat.le_refl _, fun k hk hkb => ?_, .inl rfl⟩
        · simp; omega
        · simp only [List.toList_toArray, Nat.mul_one, Nat.zero_add]
          have e0 : cur.toList.length = c := by simpa using hbs
          generalize cur.toList = l at *
          subst hbt
          have := over_room (l := l) (n := a) l2 (by omega)
          simpa [l2, l1, List.take_take] using this
        · have hkb' : k ≠ b := fun e => hkb (by rw [e]; rfl)
          exact q5 k hkb'
    · have hge := grownCap_ge w (n + m) c (ρ.t 3)
      have hgl := grownCap_le_maxLen w (n + m) c (ρ.t 3) (by omega)
      by_cases hi : a < n
      · refine (Any2.slices_Insert_int_grow L b 0 n c a vb 0 m vc xs0 xv w hi hm hbn (by omega) (by omega) l1 l2 C V c1 c2).mono fun e w' ⟨he, hw⟩ => ?_
        generalize hrow : (xs0.take a).toArray ++ Builtin.zeroCells (Value.int .i64 0).cells (n + m - a) ++ Builtin.zeroCells (Value.int .i64 0).cells (grownCap w (n + m) c (ρ.t 3) - (n + m)) = row at hw
        have hrs : row.size = grownCap w (n + m) c (ρ.t 3) := by
          rw [← hrow]
          simp only [Array.size_append, List.size_toArray, size_zeroCells, Value.cells, List.length_take]
          simp only [List.size_toArray, List.length_singleton, Nat.mul_one]
          omega
        have hrt : row.toList.take a = xs0.take a := by
          rw [← hrow]
          simp only [Array.toList_append, List.append_assoc]
          exact List.take_left' (by simp; omega)
        have s0 : ((w.alloc (.cells row (ρ.t 3))).drew).heap[w.heap.size]? = some (.cells row (ρ.t 3) (0, 0)) := alloc_heap w _
        have s1 := setCells_heap w.heap.size xv a _ row (ρ.t 3) (0, 0) s0 (by omega)
        have s2 := setCells_heap w.heap.size (xs0.drop a) (a + m) (World.drew _) _ (ρ.t 3) (0, 0) s1 (by simp; omega)
        obtain ⟨r1, r2, r3, r4, r5⟩ := setCells_rest w.heap.size xv a ((w.alloc (.cells row (ρ.t 3))).drew)
        obtain ⟨q1, q2, q3, q4, q5⟩ := setCells_rest w.heap.size (xs0.drop a) (a + m) (World.drew (((w.alloc (.cells row (ρ.t 3))).drew).setCells w.heap.size a xv))
        rw [← hw] at s2 q1 q2 q3 q4 q5
        refine ⟨_, ρ.t 3, he, ⟨by simp only [List.length_append, List.length_take, List.length_drop]; omega, .inr ⟨w.heap.size, _, _, rfl, Nat.zero_le _, s2, hge, hgl, ?_, ?_⟩⟩, q1.trans r1, q2.trans r2, q3.trans r3, ?_, fun k hk hkb => ?_, .inr ⟨_, rfl, Nat.le_refl _⟩⟩
        · simp; omega
        · simp only [List.toList_toArray, Nat.mul_one]
          have e0 : row.toList.length = grownCap w (n + m) c (ρ.t 3) := by simpa using hrs
          generalize row.toList = l at *
          have := over_grow (l := l) l2 l1 (Nat.le_of_lt hi) (by omega) hrt
          simpa [l2, l1, List.length_drop] using this
        · rw [q4]
          show w.heap.size ≤ (((w.alloc (.cells row (ρ.t 3))).drew).setCells w.heap.size a xv).heap.size
          rw [r4]; simp [World.drew]
        · have hkb' : k ≠ w.heap.size := by omega
          rw [q5 k hkb']
          show (((w.alloc (.cells row (ρ.t 3))).drew).setCells w.heap.size a xv).heap[k]? = _
          rw [r5 k hkb']
          exact Below.heap_alloc w _ k hk
      · have e : a = n := by omega
        subst e
        refine (Any2.slices_Insert_int_end_grow L (some ⟨b, 0, none⟩) a c vb 0 m vc xs0 xv w hm hbn (by omega) (by omega) l1 l2 (fun h => by cases h) (fun q hq j v hj => by injection hq with hq; subst hq; rw [Addr.add_lit]; exact C j v hj) V c2).mono fun e w' ⟨he, hw⟩ => ?_
        subst hw
        refine ⟨_, ρ.t 3, he, ⟨by simp only [List.length_append, List.length_take, List.length_drop]; omega, .inr ⟨w.heap.size, _, _, rfl, Nat.zero_le _, alloc_heap w.drew _, hge, hgl, ?_, ?_⟩⟩, rfl, rfl, rfl, by rw [World.size_alloc]; exact Nat.le_succ _, fun k hk _ => ?_, .inr ⟨_, rfl, Nat.le_refl _⟩⟩
        · simp only [Array.size_append, List.size_toArray, size_zeroCells, List.length_append, l1, l2, Value.cells]
          simp only [List.size_toArray, List.length_singleton, Nat.mul_one]
          omega
        · simp only [Array.toList_append, Nat.mul_one]
          rw [show xs0.take a = xs0 by rw [← l1, List.take_length], show xs0.drop a = [] by rw [← l1, List.drop_length], List.append_nil]
          exact List.take_left' (by simp [l1, l2])
        · exact Below.heap_alloc w.drew _ k hk
end
end Go.Lg

namespace Go.Lg
open Go.RowKit Go.Proofs Go.Shelf
variable [GL]
set_option linter.unusedVariables false
set_option linter.unusedSectionVars false

/-! ### The library's slices.Insert, as a call -/
/-- A row that is handed over, a place, and what goes in there. -/
def insP : List DV → Option (DV × List DV)
  | [.gv 1 es, .i a, .gv 1 vs] => if 0 ≤ a ∧ a ≤ es.length ∧ es.length + vs.length ≤ bound ∧ 0 < vs.length then some (.fr 1 (es.take a.toNat ++ vs ++ es.drop a.toNat), []) else none
  | _ => none
theorem ins_k (es vs : List DV) (a : Int) : insP [.gv 1 es, .i a, .gv 1 vs] = if 0 ≤ a ∧ a ≤ es.length ∧ es.length + vs.length ≤ bound ∧ 0 < vs.length then some (.fr 1 (es.take a.toNat ++ vs ++ es.drop a.toNat), []) else none := rfl
theorem three {α : Type} [Inhabited α] (vs : Array α) (u : α) (h : vs.size = 3) : vs = #[vs.getD 0 u, vs.getD 1 u, vs.getD 2 u] := by
  obtain ⟨l⟩ := vs
  match l, h with
  | [a, b, c], _ => rfl
theorem ins_sound {P : Program} {ρ : Ren} (L : Lays2.n21 P ρ) (hb : hasBody P (ρ.f 21) = true) : ∀ args r, insP args = some r → hasBody P (ρ.f 21) = true ∧ CallSpec P (ρ.f 21) args r := by
  intro args r h
  refine ⟨hb, fun w ok0 refs O vs hE => ?_⟩
  unfold insP at h
  split at h
  rotate_left
  · cases h
  rename_i es a ws
  split at h
  rotate_left
  · cases h
  rename_i hc
  obtain ⟨ha0, ha1, hbd, hw0⟩ := hc
  injection h with h
  subst h
  have hbd' : es.length + ws.length ≤ 1073741824 := hbd
  have e : enter 0 [.gv 1 es, .i a, .gv 1 ws] ⟨[], []⟩ = ⟨[(0, .own 14 es.length 0 es.length), (1, .i a), (2, .own 1038 ws.length 0 ws.length)], [(14, es), (1038, ws)]⟩ := rfl
  have hm := hE.mem
  have hA := hE.args
  rw [e] at hm hA
  have a0 := hA 0
  have a1 := hA 1
  have a2 := hA 2
  have e3 := three vs undef hE.size
  generalize vs.getD 0 undef = v0 at *
  generalize vs.getD 1 undef = v1 at *
  generalize vs.getD 2 undef = v2 at *
  subst e3
  have a0 : VR w _ _ O (.own 14 es.length 0 es.length) v0 := a0
  have a1 : VR w _ _ O (.i a) v1 := a1
  have a2 : VR w _ _ O (.own 1038 ws.length 0 ws.length) v2 := a2
  have hv1 := a1.int (c := ⟨w, ok0, refs⟩)
  subst hv1
  obtain ⟨p, hO, hp, _, _, hvw, hor⟩ := a0.own_cur (c := ⟨w, ok0, refs⟩) hm (show lookO [(14, es), (1038, ws)] 14 = some es from rfl) rfl
  obtain ⟨q, hO2, hq, _, _, hvw2, hor2⟩ := a2.own_cur (c := ⟨w, ok0, refs⟩) hm (show lookO [(14, es), (1038, ws)] 1038 = some ws from rfl) rfl
  obtain ⟨_, _, _, _, _, _, hfull, _⟩ := hvw
  obtain ⟨_, _, _, _, _, _, hfull2, _⟩ := hvw2
  have e0 := hfull rfl hp.symm
  have e2 := hfull2 rfl hq.symm
  subst e0; subst e2
  have s1 : p.sz = 1 := hm.sz 14 p hO
  have s2 : q.sz = 1 := hm.sz 1038 q hO2
  obtain ⟨xs0, hrow, hcs⟩ := hor.row
  obtain ⟨xv, hrow2, hcs2⟩ := hor2.row
  rw [s1, hp] at hrow
  rw [s2, hq] at hrow2
  obtain ⟨n, rfl⟩ := Int.eq_ofNat_of_zero_le ha0
  rw [Int.toNat_natCast]
  have hn : n ≤ es.length := by omega
  refine (ins_run L hrow hrow2 hw0 hn hbd' (fun g h1 h2 => ?_) hcs.oneCell hcs2.oneCell).mono fun en w' ⟨v', ty', he, hrow', hos, htp, hout, hsz, hheap, hblk⟩ => ⟨v', he, ?_⟩
  · have := hm.inj 14 1038 p q g hO hO2 h1 h2
    omega
  have hwid : ∀ x ∈ es.take n ++ ws ++ es.drop n, x.cells.length = 1 := fun x hx => by
    rcases List.mem_append.1 hx with hx | hx
    · rcases List.mem_append.1 hx with hx | hx
      · rw [hor.wid x (List.mem_of_mem_take hx), s1]
      · rw [hor2.wid x hx, s2]
    · rw [hor.wid x (List.mem_of_mem_drop hx), s1]
  have hlen : (es.take n ++ ws ++ es.drop n).length = es.length + ws.length := by simp only [List.length_append, List.length_take, List.length_drop]; omega
  obtain ⟨h1, _⟩ := hm.turn (k := 14) (p := p) (p' := ⟨v', es.length + ws.length, ty', 1⟩) (es' := es.take n ++ ws ++ es.drop n) (w' := w') hO hos htp hout hsz
    (fun b hb' hne => hheap b hb' hne) hblk (.inr (fun r _ h7 e => by rw [e] at h7; omega)) (.inr (by show p.len < es.length + ws.length; omega)) s1.symm (fun ok hok hkeep => by
      refine ⟨hlen.symm, by show 0 < 1; omega, hwid, _, hrow', ?_⟩
      have f1 := flat_take hor.wid (k := n)
      have f2 := flat_drop hor.wid (k := n)
      rw [s1, Nat.mul_one] at f1 f2
      rw [flat_append, flat_append, f1, f2]
      exact hkeep _ _ (((hcs.take _).append hcs2).append (hcs.drop _)))
  refine ⟨_, _, dropO (putO [(14, es), (1038, ws)] 14 (es.take n ++ ws ++ es.drop n)) 14, [.own 14 (es.length + ws.length) 0 (es.length + ws.length)], [v'], [.fr 1 (es.take n ++ ws ++ es.drop n)], h1, rfl, fun j d u hd hu => ?_, rfl, ?_, rfl, rfl⟩
  · match j, hd, hu with
    | 0, hd, hu =>
      simp only [List.getElem?_cons_zero, Option.some.injEq] at hd hu
      subst hd; subst hu
      exact .own 14 _ 0 _ _ _ (upd_same _ _ _) rfl (Nat.zero_le _) (Nat.le_refl _) (view_full (p := ⟨v', es.length + ws.length, ty', 1⟩) hrow' rfl)
    | j + 1, hd, hu => simp at hd
  · simp only [giveBackL, giveBack, lookO_put, if_true]
    rw [if_pos ⟨by omega, by omega, hlen, trivial, trivial⟩]
    rfl
end Go.Lg

namespace Go.Lg
open Go.RowKit Go.Proofs Go.Shelf
variable [GL]
set_option linter.unusedVariables false
set_option linter.unusedSectionVars false

/-! ### The library's slices.Grow of nothing, as a call -/
/-- Room for so many: a new slice without elements. -/
def growP (sz : Nat) : List DV → Option (DV × List DV)
  | [.nil, .i n] => if 0 < n ∧ n ≤ bound then some (.fr sz [], []) else none
  | _ => none
theorem grow_k (sz : Nat) (n : Int) : growP sz [.nil, .i n] = if 0 < n ∧ n ≤ bound then some (.fr sz [], []) else none := rfl
theorem two {α : Type} [Inhabited α] (vs : Array α) (u : α) (h : vs.size = 2) : vs = #[vs.getD 0 u, vs.getD 1 u] := by
  obtain ⟨l⟩ := vs
  match l, h with
  | [a, b], _ => rfl
theorem grow_sound {P : Program} {ρ : Ren} (L : Lays8.n4 P ρ) (hb : hasBody P (ρ.f 4) = true) {z : Value} {sz by_ : Nat} (hi : (P.info? (ρ.t 25)).map (fun i => (i.zero, i.size, i.bytes)) = some (some z, sz, by_)) (hzc : z.cells.size = sz) (hpos : 0 < sz) (h64 : sz < 64) (hby : by_ ≤ 65536) :
    ∀ args r, growP sz args = some r → hasBody P (ρ.f 4) = true ∧ CallSpec P (ρ.f 4) args r := by
  intro args r h
  obtain ⟨i0, hi0, hi⟩ := Option.map_eq_some_iff.1 hi
  simp only [Prod.mk.injEq] at hi
  obtain ⟨hz0, hs, rfl⟩ := hi
  refine ⟨hb, fun w ok0 refs O vs hE => ?_⟩
  unfold growP at h
  split at h
  rotate_left
  · cases h
  rename_i n
  split at h
  rotate_left
  · cases h
  rename_i hc
  obtain ⟨h0, h1⟩ := hc
  injection h with h
  subst h
  have h1' : n ≤ 1073741824 := h1
  have e : enter 0 [.nil, .i n] ⟨[], []⟩ = ⟨[(0, .nil), (1, .i n)], []⟩ := rfl
  have hm := hE.mem
  have hA := hE.args
  rw [e] at hm hA
  have a0 := hA 0
  have a1 := hA 1
  have e2 := two vs undef hE.size
  generalize vs.getD 0 undef = v0 at *
  generalize vs.getD 1 undef = v1 at *
  subst e2
  have a0 : VR w w.heap.size (okb ok0 w.heap.size O) O .nil v0 := a0
  have a1 : VR w w.heap.size (okb ok0 w.heap.size O) O (.i n) v1 := a1
  have hv1 := a1.int (c := ⟨w, ok0, refs⟩)
  have hv0 := (VR.slice_ (c := ⟨w, ok0, refs⟩) a0).2.2 rfl
  subst hv0; subst hv1
  obtain ⟨m, rfl⟩ := Int.eq_ofNat_of_zero_le (Int.le_of_lt h0)
  have hm1 : m ≤ 1073741824 := by omega
  have hm0 : 0 < m := by omega
  have hmb : (0 + m) * i0.bytes ≤ 140737488355328 := by
    have : (0 + m) * i0.bytes ≤ 1073741824 * 65536 := Nat.mul_le_mul (by omega) hby
    omega
  refine (Any8.slices_Grow_grow L i0 z hi0 hz0 (by omega) none 0 0 m [] w (Nat.le_refl _) (by omega) hmb (by omega) (by simp) (fun _ => rfl) (fun a h => by cases h)).mono fun en w' ⟨he, hw⟩ => ⟨_, he, ?_⟩
  subst hw
  have ht0 : Tr ok0 w.heap.size (fun _ => False) w O w.drew O := ⟨Nat.le_refl _, fun _ _ _ => rfl, fun _ h _ => h, fun _ _ _ h => .inl h, fun _ p _ h => ⟨p, h, .inl rfl⟩⟩
  have hm' : MR ⟨w, ok0, refs⟩ O [] w.drew := ⟨hm.os, hm.tape, hm.output, hm.size, hm.frame, hm.dom, fun k p es h1 h2 => (hm.obj k p es h1 h2).tr ht0 (fun _ _ => rfl), hm.inj, hm.base, hm.sz, hm.refs, hm.glob⟩
  have hge := grownCap_ge w (0 + m) 0 (ρ.t 25)
  have hle := grownCap_le_maxLen w (0 + m) 0 (ρ.t 25) (by unfold maxLen; omega)
  have hsz : szId (8 * sz) = sz := by unfold szId; omega
  obtain ⟨n1, _⟩ := hm'.new (8 * sz) (fun r _ h7 e => by omega) (fun h => by omega) [] ((#[] : Array Value) ++ Builtin.zeroCells z.cells (0 + m - 0) ++ Builtin.zeroCells z.cells (grownCap w (0 + m) 0 (ρ.t 25) - (0 + m))) 0 (grownCap w (0 + m) 0 (ρ.t 25)) sz (ρ.t 25) []
    hsz.symm rfl (Nat.zero_le _) hle hpos (fun e he => by cases he) (by
      simp only [Array.size_append, size_zeroCells, hzc]
      simp only [List.size_toArray, List.length_nil, Nat.zero_add, Nat.sub_zero]
      rw [← Nat.add_mul]
      congr 1
      have : m ≤ grownCap w m 0 (ρ.t 25) := by simpa using hge
      omega) (by simp) (by simp) ⟨rfl, fun j c u h => by simp [flat] at h⟩
  refine ⟨_, _, dropO (putO [] (8 * sz) []) (8 * sz), [.own (8 * sz) 0 0 0], [_], [.fr sz []], n1, rfl, fun j d u hd hu => ?_, rfl, ?_, rfl, rfl⟩
  · match j, hd, hu with
    | 0, hd, hu =>
      simp only [List.getElem?_cons_zero, Option.some.injEq] at hd hu
      subst hd; subst hu
      exact .own _ _ 0 _ _ _ (upd_same _ _ _) rfl (Nat.zero_le _) (Nat.le_refl _) ⟨_, _, rfl, Nat.zero_le _, hle, fun h => by omega, fun _ _ => rfl, fun _ => ⟨_, rfl⟩⟩
    | j + 1, hd, hu => simp at hd
  · simp only [giveBackL, giveBack, lookO_put, if_true]
    rw [if_pos ⟨by omega, by omega, rfl, trivial, trivial⟩, hsz]
end Go.Lg
