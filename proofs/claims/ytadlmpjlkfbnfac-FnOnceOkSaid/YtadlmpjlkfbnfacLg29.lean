/- Part 29 of a logical reading of translated Go: what a frame holds is said by lists, and each operation is proved against the model. No conditions. -/
import Derived.Test.YtadlmpjlkfbnfacLg28
import Derived.Still
namespace Go.Lg
open Go.RowKit
set_option linter.unusedVariables false

instance : Inhabited LOp := ⟨⟨none, .mv, [], none⟩⟩

theorem St.drew {c : Cx} {N : Nat} {S : LS} {a : Act} {w : World} (h : St c N S a w) : St c N S a { w with drawn := w.drawn + 1 } := by
  obtain ⟨O, hm, hsr, h1, h2⟩ := h
  have ht : Tr c.ok0 c.B (fun _ => False) w O { w with drawn := w.drawn + 1 } O := ⟨Nat.le_refl _, fun _ _ _ => rfl, fun _ h _ => h, fun _ _ _ h => .inl h⟩
  exact ⟨O, ⟨hm.os, hm.tape, hm.output, hm.size, hm.frame, hm.dom, fun k p es hk he => (hm.obj k p es hk he).tr ht (fun _ _ => rfl), hm.inj, hm.base, hm.sz, hm.refs⟩, fun t => (hsr t).tr ht (fun _ h => h.elim), h1, h2⟩

def reach (ops : Array Oper) : Nat → Nat → Nat → Bool
  | 0, _, _ => false
  | f + 1, i, j => match ops[i]? with
    | some o => o.after.any fun e => Region.binds .any e && (e.on == j || reach ops f e.on j)
    | none => false
def lexOk (ops : Array Oper) : Bool := (List.range ops.size).all fun i => match ops[i]? with
  | some o => o.after.all fun e => !Region.binds .any e || decide (e.on < i)
  | none => true
def pairOk (x y : LOp) : Bool := apartL x y && !(x.k.isW && y.k.isW) && plainO x && plainO y
def drawB (ops : Array Oper) (ls : List LOp) : Bool := lexOk ops && (List.range ops.size).all fun i => (List.range i).all fun j => pairOk (ls.getD j default) (ls.getD i default) || reach ops ops.size i j

def rem (ops : Array Oper) (listed : Array Bool) : List Nat := (List.range ops.size).filter fun i => !listed.getD i true
def Closed (ops : Array Oper) (listed : Array Bool) : Prop := ∀ i o, ops[i]? = some o → listed.getD i true = true → ∀ e ∈ o.after, Region.binds .any e = true → listed.getD e.on false = true

theorem getD_tf {listed : Array Bool} {i : Nat} (h : listed.getD i false = true) : listed.getD i true = true := by
  rw [Array.getD_eq_getD_getElem?] at h ⊢
  cases hx : listed[i]? <;> simp_all
theorem getD_ft {listed : Array Bool} {i : Nat} (hi : i < listed.size) (h : listed.getD i true = true) : listed.getD i false = true := by
  rw [Array.getD_eq_getD_getElem?] at h ⊢
  simp_all

theorem reach_listed {ops : Array Oper} {listed : Array Bool} (hc : Closed ops listed) : ∀ {f i j : Nat}, (∀ o, ops[i]? = some o → ∀ e ∈ o.after, Region.binds .any e = true → listed.getD e.on false = true) → reach ops f i j = true → listed.getD j true = true
  | 0, _, _, _, h => by cases h
  | f + 1, i, j, hi, h => by
    simp only [reach] at h
    split at h
    · rename_i o ho
      obtain ⟨e, he, hb⟩ := Array.any_eq_true'.1 h
      simp only [Bool.and_eq_true, Bool.or_eq_true, beq_iff_eq] at hb
      have hl := hi o ho e he hb.1
      rcases hb.2 with h1 | h1
      · rw [← h1]; exact getD_tf hl
      · exact reach_listed hc (fun o' ho' => hc e.on o' ho' (getD_tf hl)) h1
    · cases h

theorem rem_mem {ops : Array Oper} {listed : Array Bool} {i : Nat} : i ∈ rem ops listed ↔ i < ops.size ∧ listed.getD i true = false := by
  unfold rem
  rw [List.mem_filter, List.mem_range]
  simp
theorem rem_sorted (ops : Array Oper) (listed : Array Bool) : (rem ops listed).Pairwise (· < ·) := List.Pairwise.filter _ List.pairwise_lt_range
theorem rem_set {ops : Array Oper} {listed : Array Bool} (hs : listed.size = ops.size) {i : Nat} {r1 r2 : List Nat} (h : rem ops listed = r1 ++ i :: r2) : rem ops (listed.setIfInBounds i true) = r1 ++ r2 := by
  have hsort := rem_sorted ops listed
  have hmem : i ∈ rem ops listed := by rw [h]; simp
  have hi := rem_mem.1 hmem
  have e : rem ops (listed.setIfInBounds i true) = (rem ops listed).filter fun j => !(j == i) := by
    unfold rem
    rw [List.filter_filter]
    apply List.filter_congr
    intro j hj
    by_cases hji : j = i
    · subst hji
      have : (listed.setIfInBounds j true).getD j true = true := by
        rw [Array.getD_eq_getD_getElem?]; simp [Array.getElem?_setIfInBounds]
        split <;> rfl
      simp [this]
    · rw [getD_set_ne true (Ne.symm hji)]
      simp [hji]
  rw [e, h]
  rw [h, List.pairwise_append] at hsort
  obtain ⟨_, h2, h3⟩ := hsort
  rw [List.pairwise_cons] at h2
  rw [List.filter_append, List.filter_cons]
  simp only [BEq.rfl, Bool.not_true, Bool.false_eq_true, if_false]
  congr 1
  · exact List.filter_eq_self.2 fun j hj => by have := h3 j hj i (List.mem_cons_self ..); simp; omega
  · exact List.filter_eq_self.2 fun j hj => by have := h2.1 j hj; simp; omega

theorem viewOps_get {P : Program} {ops : Array Oper} : ∀ {os : List Oper} {ls : List LOp}, viewOps P ops os = some ls → ls.length = os.length ∧ ∀ (i : Nat) (o : Oper), os[i]? = some o → ∃ l, ls[i]? = some l ∧ viewOp P ops o = some l
  | [], ls, h => by simp only [viewOps, Option.some.injEq] at h; subst h; exact ⟨rfl, by simp⟩
  | o :: os, ls, h => by
    simp only [viewOps] at h
    split at h
    · rename_i l hl
      split at h
      · rename_i ls' hls
        injection h with h
        subst h
        obtain ⟨h1, h2⟩ := viewOps_get hls
        refine ⟨by simp [h1], fun i x hx => ?_⟩
        cases i with
        | zero => simp only [List.getElem?_cons_zero, Option.some.injEq] at hx; subst hx; exact ⟨l, rfl, hl⟩
        | succ i => simp only [List.getElem?_cons_succ] at hx ⊢; exact h2 i x hx
      · cases h
    · cases h

section
variable {P : Program} {Γ : Fns} {c : Cx} {N : Nat}

theorem any_ok (hΓ : CallOk P Γ) (hF : ∀ r ∈ c.refs, r.1 % 8 = 7) {ops : Array Oper} {ls : List LOp} (hv : viewOps P ops ops.toList = some ls) (hN : ∀ o ∈ ops.toList, Opx o.dst N = true) (hB : drawB ops ls = true) {q : Mode} (hq : ls.any (·.k.isW) = true → q ≠ .free) {Sf : LS} {Q : Exit → Act → World → Prop} (hQ : ∀ a' w', St c N Sf a' w' → Q .normal a' w') :
    ∀ (fuel : Nat) (listed : Array Bool) (S : LS) (a : Act) (w : World), listed.size = ops.size → Closed ops listed → (rem ops listed).length ≤ fuel → St c N S a w →
      runD Γ q ((rem ops listed).map fun i => ls.getD i default) S = some Sf → wpAny P .any ops Q fuel listed a w := by
  obtain ⟨hlen, hget⟩ := viewOps_get hv
  simp only [drawB, Bool.and_eq_true] at hB
  obtain ⟨hlex, hpair⟩ := hB
  have fin : ∀ {listed : Array Bool} {S : LS} {a : Act} {w : World}, rem ops listed = [] → St c N S a w → runD Γ q ((rem ops listed).map fun i => ls.getD i default) S = some Sf → Q .normal a w := by
    intro listed S a w h0 hs hr
    rw [h0] at hr
    simp only [List.map_nil, runD, Option.some.injEq] at hr
    subst hr
    exact hQ _ _ hs
  intro fuel
  induction fuel with
  | zero =>
    intro listed S a w hsz hc hl hs hr
    have h0 : rem ops listed = [] := List.eq_nil_of_length_eq_zero (by omega)
    refine ⟨?_, fin h0 hs hr⟩
    cases hrd : Region.ready .any ops listed with
    | nil => rfl
    | cons i r =>
      exfalso
      have hi : i ∈ Region.ready .any ops listed := by rw [hrd]; simp
      obtain ⟨h1, o, h2, _⟩ := mem_ready.1 hi
      have : i ∈ rem ops listed := rem_mem.2 ⟨(Array.getElem?_eq_some_iff.1 h2).1, h1⟩
      rw [h0] at this
      cases this
  | succ fuel ih =>
    intro listed S a w hsz hc hl hs hr
    refine ⟨fun hrd => ?_, fun i hi => ?_⟩
    · cases h0 : rem ops listed with
      | nil => exact fin h0 hs hr
      | cons i r =>
        exfalso
        have him : i ∈ rem ops listed := by rw [h0]; simp
        obtain ⟨hi, hu⟩ := rem_mem.1 him
        have hsort := rem_sorted ops listed
        rw [h0, List.pairwise_cons] at hsort
        have : i ∈ Region.ready .any ops listed := by
          refine mem_ready.2 ⟨hu, ops[i], by simp [hi], fun e he hb => ?_⟩
          have hlt : e.on < i := by
            have h1 := List.all_eq_true.1 hlex i (List.mem_range.2 hi)
            simp only [Array.getElem?_eq_getElem hi] at h1
            have h2 := Array.all_eq_true_iff_forall_mem.1 h1 e he
            simp only [hb, Bool.not_true, Bool.false_or, decide_eq_true_eq] at h2
            exact h2
          have hel : listed.getD e.on true = true := by
            cases hx : listed.getD e.on true with
            | true => rfl
            | false =>
              have hm : e.on ∈ rem ops listed := rem_mem.2 ⟨by omega, hx⟩
              rw [h0] at hm
              rcases List.mem_cons.1 hm with h1 | h1
              · omega
              · have := hsort.1 _ h1; omega
          exact getD_ft (by omega) hel
        rw [hrd] at this
        cases this
    · obtain ⟨hu, o, ho, hafter⟩ := mem_ready.1 hi
      have hil : i < ops.size := (Array.getElem?_eq_some_iff.1 ho).1
      obtain ⟨l, hl1, hl2⟩ := hget i o (by simpa using ho)
      have hfi : ls.getD i default = l := by rw [List.getD_eq_getElem?_getD, hl1]; rfl
      obtain ⟨r1, r2, hrem⟩ := List.append_of_mem (rem_mem.2 ⟨hil, hu⟩)
      have hsort := rem_sorted ops listed
      rw [hrem, List.pairwise_append] at hsort
      have hset := rem_set hsz hrem
      have hmemW : ∀ j, j < ops.size → (ls.getD j default).k.isW = true → ls.any (·.k.isW) = true := by
        intro j hj hw
        have hjl : j < ls.length := by rw [hlen]; simpa using hj
        rw [List.getD_eq_getElem?_getD, List.getElem?_eq_getElem hjl] at hw
        exact List.any_eq_true.2 ⟨_, List.getElem_mem hjl, hw⟩
      have hcomp : ∀ x ∈ r1.map fun i => ls.getD i default, Exch q x l := by
        intro x hx
        obtain ⟨j, hj, rfl⟩ := List.mem_map.1 hx
        have hjr : j ∈ rem ops listed := by rw [hrem]; exact List.mem_append_left _ hj
        obtain ⟨hjs, hju⟩ := rem_mem.1 hjr
        have hji : j < i := hsort.2.2 j hj i (List.mem_cons_self ..)
        have h1 := List.all_eq_true.1 (List.all_eq_true.1 hpair i (List.mem_range.2 hil)) j (List.mem_range.2 hji)
        rw [Bool.or_eq_true] at h1
        rcases h1 with h1 | h1
        · simp only [pairOk, Bool.and_eq_true, Bool.not_eq_true', hfi] at h1
          obtain ⟨⟨⟨h1, h2⟩, h3⟩, h4⟩ := h1
          refine ⟨h1, fun h => ?_, fun h => ?_, h3, h4⟩
          · rw [h.1, h.2] at h2; simp at h2
          · rcases h with h | h
            · exact hq (hmemW j hjs h)
            · exact hq (hmemW i hil (by rw [hfi]; exact h))
        · exfalso
          have := reach_listed hc (fun o' ho' => by rw [ho] at ho'; injection ho' with ho'; subst ho'; exact hafter) h1
          rw [hju] at this
          cases this
      rw [hrem, List.map_append, List.map_cons, hfi] at hr
      obtain ⟨_, T1, hst, hrest⟩ := bubble hcomp hr
      have hlen2 : (rem ops (listed.setIfInBounds i true)).length ≤ fuel := by
        rw [hset]
        rw [hrem] at hl
        simp at hl ⊢
        omega
      have hc' : Closed ops (listed.setIfInBounds i true) := by
        intro j oj hoj hj e he hb
        by_cases hji : j = i
        · subst hji
          rw [ho] at hoj
          injection hoj with hoj
          subst hoj
          exact getD_set_true (hafter e he hb)
        · rw [getD_set_ne true (Ne.symm hji)] at hj
          exact getD_set_true (hc j oj hoj hj e he hb)
      have hok := stepL_ok hΓ hF hl2 (hN o (by
        have := Array.mem_of_getElem? ho
        simpa using this)) hs hst (KK := wpAny P .any ops Q fuel (listed.setIfInBounds i true)) (Q := Q) (fun a' w' hs' => ih _ T1 a' w' (by simp [hsz]) hc' hlen2 hs' (by rw [hset, List.map_append]; exact hrest))
      unfold wpOp
      rw [ho]
      simp only
      split
      · rename_i hw; rw [if_pos hw] at hok; exact .inl hok
      · rename_i hw; rw [if_neg hw] at hok; exact hok

theorem draw_region (hm : P.follows .mixedOrders = true) (hΓ : CallOk P Γ) (hF : ∀ r ∈ c.refs, r.1 % 8 = 7) {id : Nat} {ops : Array Oper} {ls : List LOp} (hv : viewOps P ops ops.toList = some ls) (hN : ∀ o ∈ ops.toList, Opx o.dst N = true) (hB : drawB ops ls = true)
    {S Sf : LS} {a : Act} {w : World} {Q : Exit → Act → World → Prop} (hs : St c N S a w) (hr : runR Γ true ls S = some Sf) (hQ : ∀ a' w', St c N Sf a' w' → Q .normal a' w') : (Code.region id ops true).wp P Q a w := by
  obtain ⟨hlen, hget⟩ := viewOps_get hv
  obtain ⟨q, hq, hr⟩ : ∃ q : Mode, (ls.any (·.k.isW) = true → q ≠ .free) ∧ runD Γ q ls S = some Sf := by
    obtain ⟨q, hq, h3⟩ := runR_ex hr
    refine ⟨q, fun h => ?_, h3⟩
    rcases hq with rfl | rfl | rfl
    · unfold modeOf
      rw [if_pos h]; simp
    · simp
    · simp
  have hrem : rem ops (Array.replicate ops.size false) = List.range ops.size := by
    unfold rem
    refine List.filter_eq_self.2 fun i hi => ?_
    have hi := List.mem_range.1 hi
    simp [Array.getD_eq_getD_getElem?, hi]
  refine wp_region_any hm (any_ok hΓ hF hv hN hB hq hQ ops.size _ S a _ (by simp) (fun i o ho hl => ?_) (by rw [hrem]; simp) hs.drew ?_)
  · have hi := (Array.getElem?_eq_some_iff.1 ho).1
    simp [Array.getD_eq_getD_getElem?, hi] at hl
  · rw [hrem]
    have : (List.range ops.size).map (fun i => ls.getD i default) = ls := by
      apply List.ext_getElem?
      intro i
      rw [List.getElem?_map]
      by_cases hi : i < ops.size
      · have hil : i < ls.length := by rw [hlen]; simpa using hi
        rw [List.getElem?_range hi, Option.map_some, List.getD_eq_getElem?_getD, List.getElem?_eq_getElem hil]
        rfl
      · rw [List.getElem?_eq_none (by simpa using hi), List.getElem?_eq_none (by rw [hlen]; simpa using hi)]
        rfl
    rw [this]
    exact hr
end
end Go.Lg
