/- What the functions answer, as equations: E30. No conditions. -/
import Derived.Test.YtjallbfleicfnacDoorE29
set_option linter.unusedSectionVars false
set_option linter.unusedVariables false
set_option linter.unusedSimpArgs false
namespace Zz
open Go.Lg Md
theorem idP_occ {m : Int} {ts : List T} (h : tmOk m ts = true) {x : Tm} (hb : tb m x) (hf : flt x = ts) {k : Nat} (hk : (k : Int) < m) (ho : occ k x = false) : idP m ts k = true := by
  obtain ⟨h1, _, _⟩ := tmOk_iff.1 h
  obtain ⟨p1, p2, p3⟩ := pow5 h1.1 h1.2
  rw [idP_iff]
  intro s hs
  have hlt : s ||| 2 ^ k < 2 ^ m.toNat := Nat.or_lt_two_pow hs (Nat.pow_lt_pow_right (by omega) (by omega))
  rw [← hf, tv_flt h1.2 hb (by omega), tv_flt h1.2 hb (by omega), ev_evf, ev_evf]
  refine evf_occ fun a ha => ?_
  have : k ≠ a := fun e => by rw [e, ha] at ho; cases ho
  rw [Nat.testBit_or, Nat.testBit_two_pow]
  simp [this]
theorem idP_once {m : Int} {ts : List T} (h : tmOk m ts = true) {x : Tm} (hb : tb m x) (hf : flt x = ts) (ht : ton x) {k : Nat} (ho : occ k x = true) : idP m ts k = false := by
  obtain ⟨h1, _, _⟩ := tmOk_iff.1 h
  obtain ⟨p1, p2, p3⟩ := pow5 h1.1 h1.2
  have hk := occ_tb hb ho
  cases hi : idP m ts k with
  | false => rfl
  | true =>
    exfalso
    rw [idP_iff] at hi
    obtain ⟨f, hne⟩ := ton_turn ht ho
    have key : ∀ b, evf (setf f k b) x = tv ts (tabN (setf f k b) m.toNat) := fun b => by
      have := tabN_lt (setf f k b) m.toNat
      rw [← hf, tv_flt h1.2 hb (by omega), ev_evf]
      exact evf_occ fun a ha => by
        have := occ_tb hb ha
        rw [tabN_bit]; simp [show a < m.toNat by omega]
    have hlt := tabN_lt (setf f k false) m.toNat
    have hlt2 : tabN (setf f k false) m.toNat ||| 2 ^ k < 2 ^ m.toNat := Nat.or_lt_two_pow hlt (Nat.pow_lt_pow_right (by omega) (by omega))
    have e : tabN (setf f k false) m.toNat ||| 2 ^ k = tabN (setf f k true) m.toNat := eq_of_low hlt2 (tabN_lt _ _) fun a ha => by
      rw [Nat.testBit_or, tabN_bit, tabN_bit, Nat.testBit_two_pow]
      by_cases q : a = k
      · subst q; simp [setf, ha]
      · have : k ≠ a := fun e => q e.symm
        simp [setf, ha, q, this]
    apply hne
    rw [key, key, ← e]
    exact hi _ hlt
theorem opp_or {m : Int} {s k : Nat} (hs : s < 2 ^ m.toNat) (hk : k < m.toNat) (hb : s.testBit k = false) : opp m (s ||| 2 ^ k) ||| 2 ^ k = opp m s := by
  have hlt : s ||| 2 ^ k < 2 ^ m.toNat := Nat.or_lt_two_pow hs (Nat.pow_lt_pow_right (by omega) hk)
  refine eq_of_low (Nat.or_lt_two_pow (opp_lt hlt) (Nat.pow_lt_pow_right (by omega) hk)) (opp_lt hs) fun a ha => ?_
  rw [Nat.testBit_or, opp_bit hlt ha, opp_bit hs ha, Nat.testBit_or, Nat.testBit_two_pow]
  by_cases q : k = a
  · subst q; simp [hb]
  · simp [q]
theorem or_same {s k : Nat} (hb : s.testBit k = true) : s ||| 2 ^ k = s := by
  apply Nat.eq_of_testBit_eq
  intro a
  rw [Nat.testBit_or, Nat.testBit_two_pow]
  by_cases q : k = a
  · subst q; simp [hb]
  · simp [q]
theorem idP_dual1 {m : Int} {ts : List T} (h : tmOk m ts = true) {k : Nat} (hk : (k : Int) < m) (hi : idP m ts k = true) : idP m (ts.map dT) k = true := by
  rw [idP_iff] at hi ⊢
  intro s hs
  have hlt : s ||| 2 ^ k < 2 ^ m.toNat := Nat.or_lt_two_pow hs (Nat.pow_lt_pow_right (by omega) (by omega))
  have d : ∀ u, u < 2 ^ m.toNat → tv (ts.map dT) u = !tv ts (opp m u) := fun u hu => by
    rw [← tv_dual h (opp_lt hu), opp_opp hu]
  rw [d s hs, d _ hlt]
  cases hb : s.testBit k with
  | true => rw [or_same hb]
  | false => rw [← opp_or hs (by omega) hb, ← hi _ (opp_lt hlt)]
theorem idP_dual {m : Int} {ts : List T} (h : tmOk m ts = true) {k : Nat} (hk : (k : Int) < m) : idP m (ts.map dT) k = idP m ts k := by
  obtain ⟨d1, d2, _⟩ := tm_dual h
  rw [Bool.eq_iff_iff]
  exact ⟨fun q => by have := idP_dual1 d1 hk q; rwa [d2] at this, idP_dual1 h hk⟩
theorem idOf_dual {m : Int} {ts : List T} (h : tmOk m ts = true) : idOf m (ts.map dT) = idOf m ts := by
  unfold idOf
  rw [h, (tm_dual h).1]
  have : tabN (idP m (ts.map dT)) m.toNat = tabN (idP m ts) m.toNat := tabN_congr fun k hk => idP_dual h (by omega)
  rw [this]
theorem andn_fin : ∀ a b : Fin 32, andNotI (a.val : Int) (b.val : Int) = ((a.val &&& (31 ^^^ b.val) : Nat) : Int) := by decide +kernel
theorem andn_nat {a b : Nat} (ha : a < 32) (hb : b < 32) : andNotI (a : Int) (b : Int) = ((a &&& (31 ^^^ b) : Nat) : Int) := andn_fin ⟨a, ha⟩ ⟨b, hb⟩
/-- what the law asks of the tests that never matter -/
theorem idle_law {m : Int} {ts : List T} (h : tmOk m ts = true) : ∃ L : Nat, L < 2 ^ m.toNat ∧ letOf m ts = L ∧ (2 : Int) ^ m.toNat - 1 - L = (opp m L : Nat) ∧
    andNotI (tabN (idP m ts) m.toNat : Nat) L = (opp m L : Nat) ∧ (onceOk m ts = true → tabN (idP m ts) m.toNat = opp m L) := by
  obtain ⟨h1, _, _⟩ := tmOk_iff.1 h
  obtain ⟨p1, p2, p3⟩ := pow5 h1.1 h1.2
  obtain ⟨x, hb, hf, _, _⟩ := tv_tree h
  obtain ⟨l1, l2⟩ := lett_occ h1.1 h1.2 hb (s := 0) (by omega) (by omega)
  rw [hf] at l1 l2
  have hlt : ((ts.foldl letF 0).toNat) < 2 ^ m.toNat := by omega
  have hbit : ∀ a, (ts.foldl letF 0).toNat.testBit a = occ a x := fun a => by rw [l2]; simp
  have hid := tabN_lt (idP m ts) m.toNat
  refine ⟨(ts.foldl letF 0).toNat, hlt, ?_, ?_, ?_, fun ho => ?_⟩
  · unfold letOf lett
    rw [if_pos h]; omega
  · unfold opp; omega
  · rw [andn_nat (by omega) (by omega)]
    congr 1
    have e31 : (31 : Nat) = 2 ^ 5 - 1 := rfl
    refine eq_of_low (Nat.lt_of_le_of_lt Nat.and_le_left hid) (opp_lt hlt) fun a ha => ?_
    rw [Nat.testBit_and, Nat.testBit_xor, tabN_bit, opp_bit hlt ha, hbit, e31, Nat.testBit_two_pow_sub_one]
    have a5 : a < 5 := by omega
    cases ho : occ a x with
    | false => simp [ha, a5, idP_occ h hb hf (k := a) (by omega) ho]
    | true => simp [ha, a5]
  · unfold onceOk at ho
    rw [h, Bool.true_and] at ho
    obtain ⟨t1, _, _⟩ := once_ton h1.1 h1.2 hb (s := 0) (r := []) (by omega) (by omega) (by rw [hf]; simpa using ho)
    refine eq_of_low hid (opp_lt hlt) fun a ha => ?_
    rw [tabN_bit, opp_bit hlt ha, hbit]
    cases ho : occ a x with
    | false => simp [ha, idP_occ h hb hf (k := a) (by omega) ho]
    | true => simp [ha, idP_once h hb hf t1 ho]
end Zz
