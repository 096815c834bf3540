/- What the functions answer, as equations: E31. No conditions. -/
import Derived.Test.YtjallbfleicfnacDoorE30
set_option linter.unusedSectionVars false
set_option linter.unusedVariables false
set_option linter.unusedSimpArgs false
namespace Zz
open Go.Lg Md
/-! ### least proofs, and the tests that turn a value -/
theorem sub_fin : ∀ (o : Fin 32) (k a : Fin 5), o.val.testBit k.val = true → (o.val - 2 ^ k.val).testBit a.val = (o.val.testBit a.val && a.val != k.val) := by decide +kernel
theorem sub_bit {o k a : Nat} (ho : o < 32) (hk : k < 5) (ha : a < 5) (h : o.testBit k = true) : (o - 2 ^ k).testBit a = (o.testBit a && a != k) := sub_fin ⟨o, ho⟩ ⟨k, hk⟩ ⟨a, ha⟩ h
theorem and_fin : ∀ a b : Fin 32, andI (a.val : Int) (b.val : Int) = ((a.val &&& b.val : Nat) : Int) := by decide +kernel
theorem and_nat {a b : Nat} (ha : a < 32) (hb : b < 32) : andI (a : Int) (b : Int) = ((a &&& b : Nat) : Int) := and_fin ⟨a, ha⟩ ⟨b, hb⟩
theorem lpP_iff {m : Int} {ts : List T} {s o : Nat} : lpP m ts s o = true ↔ prf m ts s o = true ∧ ∀ k, k < m.toNat → o.testBit k = true → prf m ts s (o - 2 ^ k) = false := by
  unfold lpP
  rw [Bool.and_eq_true, allTo_iff]
  constructor
  · rintro ⟨h1, h2⟩
    refine ⟨h1, fun k hk hb => ?_⟩
    have := h2 k hk
    simpa [hb] using this
  · rintro ⟨h1, h2⟩
    refine ⟨h1, fun k hk => ?_⟩
    cases hb : o.testBit k with
    | false => rfl
    | true => simp [h2 k hk hb]
theorem lp_below {m : Int} (h1 : 1 ≤ m) (h5 : m ≤ 5) {ts : List T} {s : Nat} (hs : s < 2 ^ m.toNat) : ∀ (n o : Nat), o < n → o < 2 ^ m.toNat → prf m ts s o = true → ∃ o', o' < 2 ^ m.toNat ∧ lpP m ts s o' = true ∧ ∀ a, a < m.toNat → o'.testBit a = true → o.testBit a = true := by
  obtain ⟨p1, p2, p3⟩ := pow5 h1 h5
  intro n
  induction n with
  | zero => intro o ho; omega
  | succ n ih =>
    intro o ho hlt hp
    cases hl : lpP m ts s o with
    | true => exact ⟨o, hlt, hl, fun a _ h => h⟩
    | false =>
      obtain ⟨k, hk, hb, hq⟩ : ∃ k, k < m.toNat ∧ o.testBit k = true ∧ prf m ts s (o - 2 ^ k) = true := by
        apply Classical.byContradiction
        intro hn
        have : lpP m ts s o = true := lpP_iff.2 ⟨hp, fun k hk hb => by
          cases hq : prf m ts s (o - 2 ^ k) with
          | false => rfl
          | true => exact absurd ⟨k, hk, hb, hq⟩ hn⟩
        rw [hl] at this; cases this
      have h2k : 2 ^ k ≤ o := Nat.ge_two_pow_of_testBit hb
      have h2p : 0 < 2 ^ k := Nat.two_pow_pos k
      obtain ⟨o', q1, q2, q3⟩ := ih (o - 2 ^ k) (by omega) (by omega) hq
      refine ⟨o', q1, q2, fun a ha h => ?_⟩
      have := q3 a ha h
      rw [sub_bit (by omega) (by omega) (by omega) hb] at this
      simp at this
      exact this.1
theorem xor_lt {m : Int} {s k : Nat} (hs : s < 2 ^ m.toNat) (hk : k < m.toNat) : s ^^^ 2 ^ k < 2 ^ m.toNat := Nat.xor_lt_two_pow hs (Nat.pow_lt_pow_right (by omega) hk)
theorem turn_in {m : Int} {ts : List T} {s o k : Nat} (hs : s < 2 ^ m.toNat) (hk : k < m.toNat) (ht : tuP ts s k = true) (hp : prf m ts s o = true) : o.testBit k = true := by
  cases hb : o.testBit k with
  | true => rfl
  | false =>
    rw [prf_iff hs] at hp
    have := hp (s ^^^ 2 ^ k) (xor_lt hs hk) fun a ha h => by
      rw [Nat.testBit_xor, Nat.testBit_two_pow]
      have : k ≠ a := fun e => by rw [e, h] at hb; cases hb
      simp [this]
    unfold tuP at ht
    rw [this] at ht
    simp at ht
theorem turn_out {m : Int} (h1 : 1 ≤ m) (h5 : m ≤ 5) {ts : List T} {s k : Nat} (hs : s < 2 ^ m.toNat) (hk : k < m.toNat) (ht : tuP ts s k = false) : ∃ o, o < 2 ^ m.toNat ∧ lpP m ts s o = true ∧ o.testBit k = false := by
  obtain ⟨p1, p2, p3⟩ := pow5 h1 h5
  have hal : (2 ^ m.toNat - 1).testBit k = true := by rw [Nat.testBit_two_pow_sub_one]; simpa using hk
  have hbit : ∀ a, a < m.toNat → (2 ^ m.toNat - 1 - 2 ^ k).testBit a = (a != k) := fun a ha => by
    rw [sub_bit (by omega) (by omega) (by omega) hal, Nat.testBit_two_pow_sub_one]
    simp [ha]
  have hp : prf m ts s (2 ^ m.toNat - 1 - 2 ^ k) = true := by
    rw [prf_iff hs]
    intro s' hs' hg
    have hg' : ∀ a, a < m.toNat → a ≠ k → s'.testBit a = s.testBit a := fun a ha hne => hg a ha (by rw [hbit a ha]; simpa using hne)
    by_cases hb : s'.testBit k = s.testBit k
    · rw [eq_of_low hs' hs fun a ha => by
        by_cases e : a = k
        · rw [e]; exact hb
        · exact hg' a ha e]
    · have e : s' = s ^^^ 2 ^ k := eq_of_low hs' (xor_lt hs hk) fun a ha => by
        rw [Nat.testBit_xor, Nat.testBit_two_pow]
        by_cases e : a = k
        · subst e
          cases h1 : s'.testBit a <;> cases h2 : s.testBit a <;> simp_all
        · have : k ≠ a := fun q => e q.symm
          simp [this, hg' a ha e]
      rw [e]
      unfold tuP at ht
      have q : tv ts s = tv ts (s ^^^ 2 ^ k) := by simpa using ht
      exact q.symm
  have hle : 2 ^ m.toNat - 1 - 2 ^ k < 2 ^ m.toNat := Nat.lt_of_le_of_lt (Nat.sub_le _ _) (by omega)
  obtain ⟨o, q1, q2, q3⟩ := lp_below h1 h5 hs (2 ^ m.toNat) _ hle hle hp
  refine ⟨o, q1, q2, ?_⟩
  cases hb : o.testBit k with
  | false => rfl
  | true => have := q3 k hk hb; rw [hbit k hk] at this; simp at this
theorem turn_idle {m : Int} {ts : List T} {s k : Nat} (hs : s < 2 ^ m.toNat) (hk : k < m.toNat) (hi : idP m ts k = true) : tuP ts s k = false := by
  rw [idP_iff] at hi
  unfold tuP
  cases hb : s.testBit k with
  | false =>
    have e : s ^^^ 2 ^ k = s ||| 2 ^ k := by
      apply Nat.eq_of_testBit_eq
      intro a
      rw [Nat.testBit_xor, Nat.testBit_or, Nat.testBit_two_pow]
      by_cases q : k = a
      · subst q; simp [hb]
      · simp [q]
    rw [e, ← hi s hs]; simp
  | true =>
    have e : (s ^^^ 2 ^ k) ||| 2 ^ k = s := by
      apply Nat.eq_of_testBit_eq
      intro a
      rw [Nat.testBit_or, Nat.testBit_xor, Nat.testBit_two_pow]
      by_cases q : k = a
      · subst q; simp [hb]
      · simp [q]
    have := hi _ (xor_lt hs hk)
    rw [e] at this
    rw [this]; simp
/-- the least proofs, as numbers -/
def lpN (m : Int) (ts : List T) (s : Nat) : List Nat := (List.range (2 ^ m.toNat)).filter (lpP m ts s)
theorem sel_lpN (m : Int) (ts : List T) (s : Nat) : sel (lpP m ts s) (2 ^ m.toNat) = (lpN m ts s).map fun (k : Nat) => (k : Int) := rfl
theorem mem_lpN {m : Int} {ts : List T} {s o : Nat} : o ∈ lpN m ts s ↔ o < 2 ^ m.toNat ∧ lpP m ts s o = true := by
  unfold lpN
  rw [List.mem_filter, List.mem_range]
theorem lpN_len (m : Int) (ts : List T) (s : Nat) : (lpN m ts s).length ≤ 2 ^ m.toNat := Nat.le_trans (List.length_filter_le _ _) (by simp)
def anN (l : List Nat) (x : Nat) : Nat := l.foldl (fun a b => a &&& b) x
theorem anN_le : ∀ (l : List Nat) (x : Nat), anN l x ≤ x
  | [], x => Nat.le_refl x
  | y :: l, x => Nat.le_trans (anN_le l (x &&& y)) Nat.and_le_left
theorem anN_bit : ∀ (l : List Nat) (x a : Nat), (anN l x).testBit a = (x.testBit a && l.all fun y => y.testBit a)
  | [], x, a => by simp [anN]
  | y :: l, x, a => by
    have := anN_bit l (x &&& y) a
    simp only [anN, List.foldl_cons, List.all_cons] at this ⊢
    rw [this, Nat.testBit_and, Bool.and_assoc]
theorem an_turn {m : Int} (h1 : 1 ≤ m) (h5 : m ≤ 5) {ts : List T} {s : Nat} (hs : s < 2 ^ m.toNat) : anN (lpN m ts s) (2 ^ m.toNat - 1) = tabN (tuP ts s) m.toNat := by
  obtain ⟨p1, p2, p3⟩ := pow5 h1 h5
  refine eq_of_low (Nat.lt_of_le_of_lt (anN_le _ _) (by omega)) (tabN_lt _ _) fun a ha => ?_
  rw [anN_bit, tabN_bit, Nat.testBit_two_pow_sub_one]
  cases ht : tuP ts s a with
  | true =>
    have : (lpN m ts s).all (fun y => y.testBit a) = true := List.all_eq_true.2 fun o ho => turn_in hs ha ht (lpP_iff.1 (mem_lpN.1 ho).2).1
    simp [ha, this]
  | false =>
    obtain ⟨o, q1, q2, q3⟩ := turn_out h1 h5 hs ha ht
    have : (lpN m ts s).all (fun y => y.testBit a) = false := by
      rw [List.all_eq_false]
      exact ⟨o, mem_lpN.2 ⟨q1, q2⟩, by simp [q3]⟩
    simp [this]
theorem turn_idle0 {m : Int} (h1 : 1 ≤ m) (h5 : m ≤ 5) {ts : List T} {s : Nat} (hs : s < 2 ^ m.toNat) : tabN (tuP ts s) m.toNat &&& tabN (idP m ts) m.toNat = 0 := by
  obtain ⟨p1, p2, p3⟩ := pow5 h1 h5
  have b1 := tabN_lt (tuP ts s) m.toNat
  refine eq_of_low (m := m.toNat) (Nat.lt_of_le_of_lt Nat.and_le_left b1) (by omega) fun a ha => ?_
  rw [Nat.testBit_and, tabN_bit, tabN_bit, Nat.zero_testBit]
  cases hi : idP m ts a with
  | false => simp
  | true => simp [turn_idle hs ha hi]
end Zz
